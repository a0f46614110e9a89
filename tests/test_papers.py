"""Papers: what shows that all runs end in one way, or that they do not."""

import copy
import random
import unittest

import model
from checks import NO_BOUNDS, Checks, EqualToAll, program_of
from tiedsteps.errors import NoFault, NoNumber, NoStart, TooMany
from tiedsteps.notes import write_program
from tiedsteps.papers import accepts, is_start_paper, paper_of, start_paper
from tiedsteps.rules import start_state
from tiedsteps.verdicts import faults, is_sole, starts

LINE = program_of("p a: b := a", "q b: c := b")
RACE = program_of("p a: b := 1", "q a: b := 2")
BLINK = program_of("p ab: b <= (b=0?1:0)")
# r wakes itself for ever if q goes ahead of p and has no 1 from before.
BOTH = program_of("p a: b := 1", "q a: c := b", "r cd: d <= (c=1?d:(d=0?1:0))")
# Three that commute, and a turn.
THREE = program_of("p a: b := a", "q a: c := a", "r a: d <= a", "s bc: e := a")
START = ((5, 0, 0), ("a",))
# Of LINE from START, by hand.
ROWS = [(((5, 0, 0), (0,), ()), 2, []), (((5, 5, 0), (1,), ()), 1, []), (((5, 5, 5), (), ()), 0, [])]
# Of two processes, of which both may go ahead.
FORK = program_of("p a: b := a", "q a: c := a")
FORKED = [
    (((5, 0, 0), (0, 1), ()), 2, [("p", "q", ["q"], ["p"])]),
    (((5, 5, 0), (1,), ()), 1, []),
    (((5, 0, 5), (0,), ()), 1, []),
    (((5, 5, 5), (), ()), 0, []),
]
NO_STARTS = [
    None, True, 5, "", (), [], {}, ((5, 0, 0),), ((5, 0, 0), ("a",), ()), [(5, 0, 0), ("a",)], ([5, 0, 0], ("a",)),
    ((5, 0, 0), ["a"]), ((5, 0), ("a",)), ((5, 0, 0, 0), ("a",)), ((5, 0, True), ("a",)), ((5, 0, "0"), ("a",)),
    ((5, 0, 0), ()), ((5, 0, 0), ("b",)), ((5, 0, 0), ("a", "a")), ((5, 0, 0), "a"), ((5, 0, 0), (True,)),
    EqualToAll(), (EqualToAll(), ("a",)), ((5, 0, 0), (EqualToAll(),)), ((5, 0, 1.0), ("a",)),
]
NO_PAPERS = [None, True, 0, "", "sole", (), [], {}, ("sole",), object(), EqualToAll(), (EqualToAll(),) * 3, (None,) * 3,
             (None,) * 5, b"sole"]


class StartPaperTest(Checks):
    def check_rows(self, program, start, rows):
        states = model.table(program, model.start_state(program, *start))
        self.assertTrue(model.holds(program, start, rows))
        self.assertIs(is_start_paper(program, start, rows), True)
        self.assertEqual(sorted(row[0] for row in rows), sorted(states))

    def test_of_a_start(self):
        self.check_rows(LINE, START, start_paper(LINE, START))
        self.check_rows(THREE, ((1, 0, 0, 0, 0), ("a",)), start_paper(program=THREE, start=((1, 0, 0, 0, 0), ("a",)),
                                                                      most=100))
        for value in (10 ** 59, -7, 0):
            start = ((value, 0, 0), ("a",))
            self.check_rows(FORK, start, start_paper(FORK, start))

    def test_kinds_of_what_is_told(self):
        rows = start_paper(FORK, ((5, 0, 0), ("a",)))
        self.assertIs(rows.__class__, list)
        for row in rows:
            self.assertEqual([part.__class__ for part in row], [tuple, int, list])
            for join in row[2]:
                self.assertEqual([part.__class__ for part in join], [str, str, list, list])
        rows[0][2].append("changed")
        rows.append("changed")
        self.check_rows(FORK, ((5, 0, 0), ("a",)), start_paper(FORK, ((5, 0, 0), ("a",))))

    def test_of_many_programs(self):
        found = 0
        for program in model.some_programs(80, 61, processes=4):
            for start in list(starts(program))[::7]:
                state = model.start_state(program, *start)
                if len(model.ends(program, state)) > 1:
                    self.refuses(NoFault, "parts", start_paper, program, start)
                elif model.has_ring(program, state):
                    self.refuses(NoFault, "rings", start_paper, program, start)
                else:
                    found += 1
                    self.check_rows(program, start, start_paper(program, start))
        self.assertGreater(found, 200)

    def test_faults(self):
        self.refuses(NoFault, "parts", start_paper, RACE, ((5, 5), ("a",)))
        self.refuses(NoFault, "rings", start_paper, BLINK, ((5, 5), ("a",)))
        # This one has both: parting ends need b to be another one, and a ring.
        both = program_of("p a: b := 1", "q a: b := 2", "r bc: c <= (b=2?(c=2?1:2):c)", "s a: b := a")
        self.assertEqual(faults(both), ["parts", "rings"])
        state = start_state(both, [5, 0, 0], ["a"])
        self.assertTrue(len(model.ends(both, state)) > 1 and model.has_ring(both, state))
        self.refuses(NoFault, "parts", start_paper, both, ((5, 0, 0), ("a",)))

    def test_of_the_starts_without_a_fault(self):
        # Where a is 1 both write the same.
        program = program_of("p a: b := 1", "q a: b := a")
        self.check_rows(program, ((1, 7), ("a",)), start_paper(program, ((1, 7), ("a",))))
        self.refuses(NoFault, "parts", start_paper, program, ((2, 7), ("a",)))

    def test_wrong_starts(self):
        for wrong in NO_STARTS:
            with self.subTest(wrong):
                self.refuses_it(NoStart, wrong, start_paper, LINE, wrong)
                self.refuses_it(NoStart, wrong, start_paper, LINE, wrong, most=1)
                self.refuses_it(NoStart, wrong, is_start_paper, LINE, wrong, ROWS)
        two = program_of("p b: c := b", inputs="ba")
        self.refuses(NoStart, ((1, 2, 3), ("b", "a")), start_paper, two, ((1, 2, 3), ("b", "a")))
        self.check_rows(two, ((1, 2, 3), ("a", "b")), start_paper(two, ((1, 2, 3), ("a", "b"))))

    def test_bounds(self):
        self.check_rows(LINE, START, start_paper(LINE, START, most=3))
        self.refuses(TooMany, 2, start_paper, LINE, START, most=2)
        many = len(model.table(RACE, start_state(RACE, [5, 5], ["a"])))
        self.refuses(NoFault, "parts", start_paper, RACE, ((5, 5), ("a",)), most=many)
        self.refuses(TooMany, many - 1, start_paper, RACE, ((5, 5), ("a",)), most=many - 1)
        for wrong in NO_BOUNDS:
            self.refuses_it(NoNumber, wrong, start_paper, LINE, START, most=wrong)
            self.refuses_it(NoNumber, wrong, start_paper, LINE, None, most=wrong)
        self.assertRaises(TypeError, start_paper, LINE, START, 5)
        self.assertEqual(start_paper.__kwdefaults__, {"most": 2000})


class IsStartPaperTest(Checks):
    def fork(self, at, row):
        """FORKED with another row."""
        return FORKED[:at] + [row] + FORKED[at + 1:]

    def joins(self, *joins):
        return self.fork(0, (FORKED[0][0], 2, list(joins)))

    def accepted(self, *papers):
        for rows in papers:
            with self.subTest(rows):
                self.assertIs(is_start_paper(FORK, START, rows), True)

    def refused(self, *papers):
        for rows in papers:
            with self.subTest(rows):
                self.assertIs(is_start_paper(FORK, START, rows), False)

    def test_right_ones(self):
        self.assertIs(is_start_paper(program=LINE, start=START, rows=ROWS), True)
        self.accepted(FORKED, FORKED[::-1], self.joins(("p", "q", ("q",), ("p",))))
        self.assertIs(is_start_paper(LINE, START, ROWS + [(((9, 9, 9), (), ()), 10 ** 59, [])]), True)

    def test_numbers_need_only_fall(self):
        self.accepted([(state, number * 7 - 10 ** 58, joins) for state, number, joins in FORKED])
        self.accepted(self.fork(1, (FORKED[1][0], 1, [])), self.fork(0, (FORKED[0][0], 100, FORKED[0][2])))
        self.refused(self.fork(0, (FORKED[0][0], 1, FORKED[0][2])), self.fork(3, (FORKED[3][0], 1, [])),
                     self.fork(1, (FORKED[1][0], 2, [])), self.fork(2, (FORKED[2][0], 0, [])),
                     self.fork(1, (FORKED[1][0], -1, [])))

    def test_numbers_are_numbers(self):
        for wrong in (True, False, None, "1", 1.0, [1], EqualToAll()):
            self.refused(self.fork(1, (FORKED[1][0], wrong, [])), self.fork(3, (FORKED[3][0], wrong, [])))

    def test_joins(self):
        join = ("p", "q", ["q"], ["p"])
        self.refused(self.joins(), self.joins(join, join), self.joins(("q", "p", ["p"], ["q"])),
                     self.joins(("q", "p", ["q"], ["p"])), self.joins(("p", "p", ["q"], ["p"])),
                     self.joins(("p", "q", [], [])), self.joins(("p", "q", ["q"], [])), self.joins(["p", "q", ["q"], ["p"]]),
                     self.joins(("p", "q", ["q"])), self.joins(("p", "q", ["q"], ["p"], [])), self.joins(None),
                     self.joins(("p", "q", ["p"], ["q"])), self.joins(("p", "q", ["q", "turn"], ["p", "turn"])),
                     self.joins(("p", "q", None, None)), self.joins(("p", "q", "q", "p")), self.joins(EqualToAll()),
                     self.joins((EqualToAll(), EqualToAll(), ["q"], ["p"])),
                     self.joins((EqualToAll(), "q", ["q"], ["p"])), self.joins(("p", EqualToAll(), ["q"], ["p"])), self.joins(("p", "q", [EqualToAll()], ["p"])),
                     self.joins(("p", "q", ["q"], EqualToAll())))
        self.refused(self.fork(0, (FORKED[0][0], 2, (join,))), self.fork(0, (FORKED[0][0], 2, {0: join})),
                     self.fork(0, (FORKED[0][0], 2, None)), self.fork(1, (FORKED[1][0], 1, ())),
                     self.fork(1, (FORKED[1][0], 1, [join])), self.fork(3, (FORKED[3][0], 0, [("p", "q", [], [])])))

    def test_joins_of_three_moves_in_order(self):
        program = program_of("r a: b := a", "p a: c := a", "q a: d := a")
        start = ((5, 0, 0, 0), ("a",))
        rows = start_paper(program, start)
        told = rows[0][2]
        self.assertEqual([join[:2] for join in told], [("r", "p"), ("r", "q"), ("p", "q")])
        for other in ([1, 0, 2], [0, 2, 1], [2, 1, 0], [0, 1], [0, 1, 1], [0, 0, 1], [0, 1, 2, 2]):
            bent = [(rows[0][0], rows[0][1], [told[at] for at in other]), *rows[1:]]
            self.assertIs(is_start_paper(program, start, bent), False)

    def test_joins_that_lead_elsewhere(self):
        # Behind p and behind q there are runs, but to no one state.
        program = program_of("p a: b := 1", "q a: b := 2", "r a: c := a")
        start = ((5, 5, 5), ("a",))
        rows = []
        for state, behind in model.table(program, start_state(program, *start)).items():
            moves = list(behind)
            joins = [(one, other, [other], [one]) for at, one in enumerate(moves) for other in moves[at + 1:]]
            rows.append((state, 5 * len(state[1]), joins))
        self.assertIs(is_start_paper(program, start, rows), False)
        for row in rows:
            if len(row[0][1]) < 2:
                self.assertIs(model.row_holds(program, {row[0]: row[1] for row in rows}, row), True)

    def test_states(self):
        for at in range(4):
            self.refused(FORKED[:at] + FORKED[at + 1:])
            self.refused(FORKED + [FORKED[at]])
            self.refused(FORKED + [(FORKED[at][0], 50, FORKED[at][2])])
        self.refused([], [FORKED[3]])
        self.assertIs(is_start_paper(FORK, ((5, 5, 5), ("a",)), FORKED), False)

    def test_other_states_may_stand_beside(self):
        wide = (((7, -1, 10 ** 59), (), ()), -3, [])
        self.accepted(FORKED + [wide], [wide] + FORKED)
        # What is later for an input has the form, too, and the turn writes it and wakes both.
        late = (((6, 0, 0), (), ((0, 5),)), 3, [])
        self.accepted(FORKED + [late])
        self.refused(FORKED + [(late[0], 2, [])], FORKED + [(late[0], 3, [("turn", "turn", [], [])])])
        # A state beside, which is not closed under its moves.
        self.refused(FORKED + [(((7, 0, 0), (0,), ()), 5, [])])

    def test_states_of_another_form(self):
        for state in (((5, 5, 5), ()), ((5, 5, 5), (), (), ()), [(5, 5, 5), (), ()], ([5, 5, 5], (), ()),
                      ((5, 5, 5), [], ()), ((5, 5, 5), (), []), ((5, 5), (), ()), ((5, 5, 5, 5), (), ()),
                      ((5, 5, True), (), ()), ((5, 5, "5"), (), ()), ((5, 5, 5), (2,), ()), ((5, 5, 5), (-1,), ()),
                      ((5, 5, 5), (False,), ()), ((5, 5, 5), (1, 0), ()), ((5, 5, 5), (0, 0), ()),
                      ((5, 5, 5), ("p",), ()), ((5, 5, 5), (), ((3, 1),)), ((5, 5, 5), (), ((-1, 1),)),
                      ((5, 5, 5), (), ((True, 1),)), ((5, 5, 5), (), ((1, True),)), ((5, 5, 5), (), ([1, 1],)),
                      ((5, 5, 5), (), ((1, 1, 1),)), ((5, 5, 5), (), ((1, 1), (0, 1))), ((5, 5, 5), (), ((1, 1), (1, 2))),
                      None, 5, "state", EqualToAll(), ((5, 5, 5.0), (), ()), ((5, 5, EqualToAll()), (), ())):
            self.refused(FORKED + [(state, 100, [])], FORKED[:3] + [(state, 0, [])])

    def test_rows_of_another_form(self):
        self.refused(tuple(FORKED), [list(row) for row in FORKED], [row[:2] for row in FORKED],
                     [(*row, 0) for row in FORKED], {at: row for at, row in enumerate(FORKED)}, FORKED + [None],
                     FORKED + [EqualToAll()], "rows", None, True, 5, EqualToAll(), iter(FORKED))
        self.refused([(number, state, joins) for state, number, joins in FORKED])

    def test_a_truth_in_place_of_a_number(self):
        start = ((1, 0, 0), ("a",))
        rows = start_paper(FORK, start)
        self.assertIs(is_start_paper(FORK, start, rows), True)
        for at, (state, number, joins) in enumerate(rows):
            for values in ((True, *state[0][1:]), (*state[0][:2], state[0][2] == 1)):
                bent = rows[:at] + [((values, *state[1:]), number, joins)] + rows[at + 1:]
                self.assertIs(is_start_paper(FORK, start, bent), False)

    def test_bent_ones_as_the_model_finds_them(self):
        chance = random.Random(62)
        found = []
        for program in model.some_programs(150, 63, processes=3):
            for start in list(starts(program))[::9]:
                state = model.start_state(program, *start)
                if len(model.ends(program, state)) == 1 and not model.has_ring(program, state):
                    rows = start_paper(program, start)
                    for _ in range(4):
                        bent = bend(chance, rows)
                        told = is_start_paper(program, start, bent)
                        self.assertIs(told, model.holds(program, start, bent))
                        found.append(told)
        self.assertGreater(found.count(True), 50)
        self.assertGreater(found.count(False), 500)


def bend(chance, rows):
    """Some rows with one thing put otherwise, which need not make them wrong."""
    rows = copy.deepcopy(rows)
    at = chance.randrange(len(rows))
    state, number, joins = rows[at]
    kind = chance.randrange(6)
    if kind == 0:
        rows[at] = (state, number + chance.choice([-1, 1, 5]), joins)
    elif kind == 1:
        del rows[at]
    elif kind == 2:
        rows.append(rows[at])
    elif kind == 3:
        rows[at] = (state, number, joins[1:] if chance.random() < 0.5 else joins[::-1])
    elif kind == 4 and joins:
        spot = chance.randrange(len(joins))
        one, other, left, right = joins[spot]
        sides = [left[:-1], left + left, left + right, right, [*left, "turn"], []]
        joins[spot] = (one, other, chance.choice(sides), right)
    else:
        values, awake, later = state
        values = tuple(chance.choice([value, value, value + 1]) for value in values)
        rows[at] = ((values, chance.choice([awake, awake[1:], ()]), later), number, joins)
    return rows


class PaperOfTest(Checks):
    def test_of_a_sole_program(self):
        for program in (LINE, FORK, THREE):
            told = paper_of(program=program, most=100)
            self.assertEqual((told.__class__, told[0], told[1], len(told)), (tuple, "sole", write_program(program), 3))
            rows = list(starts(program))
            self.assertEqual((told[2].__class__, len(told[2])), (list, len(rows)))
            for start, paper in zip(rows, told[2]):
                self.assertTrue(model.holds(program, start, paper))
            self.assertIs(accepts(told), True)

    def test_of_each_fault(self):
        for program, fault in ((RACE, "parts"), (BLINK, "rings"), (BOTH, "parts")):
            told = paper_of(program)
            self.assertEqual((told.__class__, told[0], told[1], len(told)), (tuple, fault, write_program(program), 5))
            self.assertEqual([part.__class__ for part in told[2:]], [tuple, list, list])
            self.assertIs(accepts(told), True)

    def test_new_each_time(self):
        paper_of(LINE)[2].append("changed")
        paper_of(LINE)[2][0].append("changed")
        paper_of(RACE)[3].append("changed")
        for program in (LINE, RACE):
            self.assertIs(accepts(paper_of(program)), True)

    def test_bounds(self):
        for program in (LINE, RACE, BLINK, BOTH):
            most = max(len(model.table(program, start_state(program, *start))) for start in starts(program))
            self.assertIs(accepts(paper_of(program, most=most)), True)
            self.refuses(TooMany, most - 1, paper_of, program, most=most - 1)
            for wrong in NO_BOUNDS:
                self.refuses_it(NoNumber, wrong, paper_of, program, most=wrong)
        self.assertRaises(TypeError, paper_of, LINE, 5)
        self.assertEqual(paper_of.__kwdefaults__, {"most": 2000})

    def test_of_many_programs(self):
        found = set()
        for program in model.some_programs(60, 64):
            told = paper_of(program)
            self.assertEqual(told[0], (faults(program) or ["sole"])[0])
            self.assertIs(accepts(told), True)
            found.add(told[0])
        self.assertEqual(found, {"sole", "parts", "rings"})


class AcceptsTest(Checks):
    def refused(self, *papers):
        for paper in papers:
            with self.subTest(paper):
                self.assertIs(accepts(paper), False)

    def test_what_is_no_paper(self):
        self.refused(*NO_PAPERS)
        for told in (paper_of(LINE), paper_of(RACE), paper_of(BLINK)):
            self.refused(list(told), told[:-1], (*told, None), (*told, []), told[::-1])
            for wrong in NO_PAPERS:
                for at, part in enumerate(told):
                    if wrong != "sole" and wrong != [] and wrong != () or isinstance(wrong, EqualToAll):
                        self.refused((*told[:at], wrong, *told[at + 1:]))

    def test_by_name(self):
        self.assertIs(accepts(paper=paper_of(LINE)), True)

    def test_kinds_exchanged(self):
        sole, parts, rings = paper_of(LINE), paper_of(RACE), paper_of(BLINK)
        for told in (sole, parts, rings):
            for word in ("sole", "parts", "rings", "Sole", "part", "several", "one"):
                if word != told[0]:
                    self.refused((word, *told[1:]))

    def test_notes(self):
        sole, parts = paper_of(LINE), paper_of(RACE)
        self.refused((sole[0], write_program(RACE), sole[2]), (parts[0], write_program(LINE), *parts[2:]))
        self.refused((sole[0], sole[1][:-1], sole[2]), (sole[0], sole[1] + "\n", sole[2]), (sole[0], "\n" + sole[1], sole[2]))
        self.refused((sole[0], LINE, sole[2]), (parts[0], RACE, *parts[2:]), (sole[0], "", sole[2]))

    def test_sole_with_papers_bent(self):
        kind, note, papers = paper_of(LINE)
        self.refused((kind, note, papers[:-1]), (kind, note, papers + [papers[-1]]), (kind, note, papers[::-1]),
                     (kind, note, tuple(papers)), (kind, note, []), (kind, note, [papers]), (kind, note, papers[0]))
        self.refused((kind, note, papers[1:] + papers[:1]), (kind, note, [None] * len(papers)))
        for at, rows in enumerate(papers):
            for bent in (rows[:-1], rows[1:], tuple(rows), rows + rows[-1:], None):
                self.refused((kind, note, papers[:at] + [bent] + papers[at + 1:]))

    def test_parts(self):
        note = write_program(RACE)
        start = ((5, -7), ("a",))
        self.assertIs(accepts(("parts", note, start, ["p", "q"], ["q", "p"])), True)
        self.assertIs(accepts(("parts", note, start, ("q", "p"), ("p", "q"))), True)
        self.assertIs(accepts(("parts", note, ((10 ** 59, 0), ("a",)), ["p", "q"], ("q", "p"))), True)
        self.refused(("parts", note, start, ["p", "q"], ["p", "q"]), ("parts", note, start, ["p"], ["q"]),
                     ("parts", note, start, ["q"], ["q", "p"]), ("parts", note, start, ["p", "q"], ["p"]),
                     ("parts", note, start, ["p", "q"], ["q"]), ("parts", note, start, ["p"], ["q", "p"]),
                     ("parts", note, start, ["p", "q"], ["q", "q"]), ("parts", note, start, ["p", "q"], ["q", "p", "turn"]),
                     ("parts", note, start, ["p", "q", "p"], ["q", "p"]), ("parts", note, start, "pq", "qp"),
                     ("parts", note, start, ["p", "q"], []), ("parts", note, start, [], []),
                     ("parts", note, start, ["p", "q"], ["q", EqualToAll()]))
        for wrong in [((5, 7, 0), ("a",)), None, True, (), (5, -7), ((5, -7), ()), ((5, -7), "a"), ((5, -7), ["a"]),
                      ((5, -7), (EqualToAll(),)), EqualToAll(), ((5, -7), ("a", "a")), ((5,), ("a",)), ((5, "0"), ("a",)),
                      [(5, -7), ("a",)], ((5, -7), ("b",)), ((True, -7), ("a",))]:
            self.refused(("parts", note, wrong, ["p", "q"], ["q", "p"]))

    def test_parts_to_ends_with_like_values(self):
        note = write_program(program_of("p a: b := 1", "q ab: c := 1"))
        self.refused(("parts", note, ((5, 0, 0), ("a",)), ["p", "q"], ["q", "p", "q"]))

    def test_rings(self):
        note = write_program(BLINK)
        start = ((5, 0), ("a",))
        circle = ["p", "turn", "p", "turn"]
        self.assertIs(accepts(("rings", note, start, [], circle)), True)
        self.assertIs(accepts(("rings", note, start, ("p", "turn"), tuple(circle))), True)
        self.assertIs(accepts(("rings", note, start, ["p"], ["turn", "p"] * 4)), True)
        self.refused(("rings", note, start, [], []), ("rings", note, start, [], ["p", "turn"]),
                     ("rings", note, start, [], ["p", "turn", "p"]), ("rings", note, start, ["turn"], circle),
                     ("rings", note, start, ["p"], circle), ("rings", note, start, None, circle),
                     ("rings", note, start, [], None), ("rings", note, start, circle, []),
                     ("rings", note, start, [], [*circle, EqualToAll()]), ("parts", note, start, [], circle))
        # From another value b is 1 or 0 only behind the first turn.
        self.refused(("rings", note, ((5, 7), ("a",)), [], circle))
        self.assertIs(accepts(("rings", note, ((5, 7), ("a",)), ["p", "turn"], circle)), True)

    def test_only_right_ones(self):
        # Papers of one program under the note of another one, which has the same names.
        programs = model.some_programs(40, 65, processes=2)
        papers = [paper_of(program) for program in programs]
        for program in programs:
            for paper in papers:
                bent = (paper[0], write_program(program), *paper[2:])
                if accepts(bent):
                    self.assertIs(is_sole(program), paper[0] == "sole")
                    self.assertTrue(paper[0] == "sole" or paper[0] in faults(program))


if __name__ == "__main__":
    unittest.main()
