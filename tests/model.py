"""A second way to play programs, slow and by the words of the document, beside which the package is laid.

It plays with names: the values and what is later are dicts, those awake a set.
"""

import random

from tiedsteps.errors import NoProgram
from tiedsteps.processes import Process
from tiedsteps.programs import Program


def opened(program, state):
    values, awake, later = state
    variables, names = program.variables(), program.names()
    return (
        dict(zip(variables, values)),
        {names[place] for place in awake},
        {variables[place]: value for place, value in later},
    )


def closed(program, values, awake, later):
    variables, names = program.variables(), program.names()
    return (
        tuple(values[name] for name in variables),
        tuple(place for place, name in enumerate(names) if name in awake),
        tuple((place, later[name]) for place, name in enumerate(variables) if name in later),
    )


def waiting(program, variable):
    return {name for name in program.names() if variable in program[name].waits()}


def start_state(program, values, changed):
    awake = set()
    for name in changed:
        awake |= waiting(program, name)
    return closed(program, dict(zip(program.variables(), values)), awake, {})


def next_states(program, state):
    """The dict from the possible moves, in order, to the states behind them."""
    values, awake, later = opened(program, state)
    if not awake and later:
        woken = set()
        for name, value in later.items():
            if values[name] != value:
                woken |= waiting(program, name)
        return {"turn": closed(program, {**values, **later}, woken, {})}
    return {name: after(program, state, name) for name in program.names() if name in awake}


def after(program, state, name):
    values, awake, later = opened(program, state)
    awake.discard(name)
    for deed in program[name].deeds():
        value = deed.term(values)
        if deed.late:
            later[deed.variable] = value
        elif values[deed.variable] != value:
            values[deed.variable] = value
            awake |= waiting(program, deed.variable) - {name}
    return closed(program, values, awake, later)


def table(program, state):
    """The dict from all states, as they are met by breadth, to the dicts of what stands behind them."""
    told = {state: None}
    ahead = [state]
    for one in ahead:
        told[one] = next_states(program, one)
        for other in told[one].values():
            if other not in told:
                told[other] = None
                ahead.append(other)
    return told


def ends(program, state):
    return sorted({one[0] for one, behind in table(program, state).items() if not behind})


def longest(program, state):
    """The most moves of a run, None if one never ends: then no bound of moves holds all runs."""
    told = table(program, state)
    many, here = 0, {state}
    while many <= len(told):
        ahead = {other for one in here for other in told[one].values()}
        if not ahead:
            return many
        many, here = many + 1, ahead
    return None


def played(program, state, run):
    for move in run:
        state = next_states(program, state)[move]
    return state


class Shape:
    """As much of a program as its starts need."""

    def __init__(self, variables, inputs, constants):
        self.variables = lambda: variables
        self.inputs = lambda: inputs
        self.constants = lambda: constants


def starts(program):
    """All starts, with the values told from 0 on in every way, each pattern once."""
    from itertools import combinations, product

    constants, variables = program.constants(), program.variables()
    fresh = [value for value in range(len(variables) + 2) if value not in constants][:len(variables)]
    inputs = sorted(program.inputs())
    changes = [row for many in range(1, len(inputs) + 1) for row in combinations(inputs, many)]
    told = []
    for values in product(constants + fresh, repeat=len(variables)):
        unlike = list(dict.fromkeys(value for value in values if value not in constants))
        if unlike == fresh[:len(unlike)]:
            told.append(values)
    rank = {value: place for place, value in enumerate(constants + fresh)}
    told.sort(key=lambda values: [rank[value] for value in values])
    return [(values, changed) for values in told for changed in changes]


def has_ring(program, state):
    return longest(program, state) is None


def has_form(program, state):
    """Whether any value is a tuple of the form of a state."""
    if state.__class__ is not tuple or [part.__class__ for part in state] != [tuple, tuple, tuple]:
        return False
    values, awake, later = state
    if len(values) != len(program.variables()) or any(value.__class__ is not int for value in values):
        return False
    if any(pair.__class__ is not tuple or len(pair) != 2 for pair in later):
        return False
    spots = tuple(pair[0] for pair in later)
    for places, many in ((awake, len(program)), (spots, len(values))):
        if any(place.__class__ is not int or not 0 <= place < many for place in places):
            return False
        if list(places) != sorted(set(places)):
            return False
    return all(value.__class__ is int for _, value in later)


def behind(program, state, run):
    """The state behind a run, None if any value is no run."""
    if run.__class__ not in (list, tuple):
        return None
    for move in run:
        if move.__class__ is not str or move not in next_states(program, state):
            return None
        state = next_states(program, state)[move]
    return state


def holds(program, start, rows):
    """Whether any value is a start paper of a start, word by word."""
    if rows.__class__ is not list or any(row.__class__ is not tuple or len(row) != 3 for row in rows):
        return False
    if any(not has_form(program, row[0]) or row[1].__class__ is not int or row[2].__class__ is not list
           for row in rows):
        return False
    states = [row[0] for row in rows]
    if len(set(states)) < len(states) or start_state(program, *start) not in states:
        return False
    return all(row_holds(program, dict(zip(states, [row[1] for row in rows])), row) for row in rows)


def row_holds(program, numbers, row):
    state, number, joins = row
    ahead = list(next_states(program, state).items())
    if any(other not in numbers or numbers[other] >= number for _, other in ahead):
        return False
    pairs = [(one, other) for at, one in enumerate(ahead) for other in ahead[at + 1:]]
    if len(pairs) != len(joins):
        return False
    for join, (one, other) in zip(joins, pairs):
        if join.__class__ is not tuple or len(join) != 4 or join[0] != one[0] or join[1] != other[0]:
            return False
        left, right = behind(program, one[1], join[2]), behind(program, other[1], join[3])
        if left is None or left != right:
            return False
    return True


def some_programs(many, seed, *, processes=3):
    """So many programs, the same at each call."""
    chance = random.Random(seed)
    told = []
    while len(told) < many:
        try:
            told.append(one_program(chance, processes))
        except NoProgram:
            continue
    return told


def one_program(chance, processes):
    inputs = ["a", "b"][:chance.choice([1, 1, 2])]
    others = ["c", "d", "e"][:chance.choice([1, 2, 2])]
    numbers = chance.sample(range(10), 2)

    def leaf():
        return chance.choice(inputs + others + numbers[:1] + chance.choice([[], numbers]))

    def term():
        if chance.random() < 0.6:
            return str(leaf())
        return f"({leaf()}={leaf()}?{leaf()}:{leaf()})"

    def process(name):
        waits = chance.sample(inputs + others, chance.choice([1, 1, 2]))
        deeds = [f"{chance.choice(others)} {chance.choice([':=', ':=', '<='])} {term()}"
                 for _ in range(chance.choice([1, 1, 2]))]
        return Process(name, waits, deeds)

    return Program([process(name) for name in ["q", "p", "s", "r", "t"][:chance.randint(1, processes)]], inputs)


def wide_programs(many, seed, *, at_once=8):
    """So many programs with five processes, five variables and two constants, the same at each call."""
    chance = random.Random(seed)
    told = []
    while len(told) < many:
        try:
            program = one_wide_program(chance, at_once)
        except NoProgram:
            continue
        if len(program.variables()) == 5 and len(program.constants()) == 2:
            told.append(program)
    return told


def one_wide_program(chance, at_once):
    inputs = ["a", "b", "c"][:chance.choice([1, 2, 3])]
    others = ["v", "w", "x", "y"][:5 - len(inputs)]
    all_leaves = inputs + others + chance.sample(range(10), 2)
    left = [True] * at_once

    def term():
        if chance.random() < 0.5:
            return str(chance.choice(all_leaves))
        one, other, same, unlike = [chance.choice(all_leaves) for _ in range(4)]
        return f"({one}={other}?{same}:{unlike})"

    def process(name):
        rows = []
        for _ in range(chance.choice([1, 1, 2])):
            sign = ":=" if left and chance.random() < 0.6 else "<="
            if sign == ":=":
                left.pop()
            rows.append(f"{chance.choice(others)} {sign} {term()}")
        return Process(name, chance.sample(inputs + others, chance.choice([1, 1, 2])), rows)

    return Program([process(name) for name in ["q", "p", "s", "r", "t"]], inputs)
