"""Ties: what each order comes to at all starts, and by which rules all orders come to the same."""

from tiedsteps.errors import NoOrder
from tiedsteps.graphs import Web
from tiedsteps.plain import is_row, sets_of
from tiedsteps.players import Player
from tiedsteps.rules import is_end, is_order, start_state
from tiedsteps.verdicts import MOST_KEPT, starts


def _all_rows(names):
    """All tuples of some names, each once, by their places."""
    if not names:
        return [()]
    return [(name, *row) for at, name in enumerate(names) for row in _all_rows(names[:at] + names[at + 1:])]


def orders(program):
    """The list of all orders, by the places of their names."""
    return _all_rows(program.names())


def rules(program):
    """The list of all rules (one, other), by the place of one, then of other."""
    return [(one, other) for one in program.names() for other in program.names() if one != other]


def _check_order(program, order):
    """Raises NoOrder of any value that is no order."""
    if not is_order(program, order):
        raise NoOrder(order)


def _check_rules(program, some):
    """Raises NoOrder of any value that is no list or tuple of rules, with the first item that is none."""
    if not is_row(some):
        raise NoOrder(some)
    for rule in some:
        if not isinstance(rule, tuple) or not all([isinstance(name, str) for name in rule]):
            raise NoOrder(rule)
        if rule not in rules(program):
            raise NoOrder(rule)


def _played_by(program, player, state, order):
    """The pair (outcome, moves of the run) of an order from a state, (None, None) if it never ends."""
    run, behind = player.run_by(state, order)
    return (behind[0], len(run)) if is_end(program, behind) else (None, None)


def outcome(program, values, changed, order):
    """The values in which the run ends that an order makes from a start, None if it never ends."""
    state = start_state(program, values, changed)
    _check_order(program, order)
    return _played_by(program, Player(program), state, order)[0]


def _all_played_by(program, order):
    """The list of the pairs (outcome, moves of the run) of an order at all starts, in order."""
    _check_order(program, order)
    player = Player(program)
    return [_played_by(program, player, start_state(program, *start), order) for start in starts(program)]


def outcomes(program, order):
    """The list of the outcomes of an order at all starts, in order."""
    return [values for values, _ in _all_played_by(program, order)]


def moves_by(program, order):
    """How many moves the longest run has that an order makes from any start, None if one never ends."""
    lengths = [many for _, many in _all_played_by(program, order)]
    return None if None in lengths else max(lengths)


def _keeps(order, rule):
    """Whether an order keeps a rule."""
    one, other = rule
    return order.index(one) < order.index(other)


def orders_by(program, some):
    """The list of the orders that keep some rules."""
    _check_rules(program, some)
    return [order for order in orders(program) if all([_keeps(order, rule) for rule in some])]


class Bundle:
    """What all orders of a program come to at all starts; it never changes.

    All orders are played together, and part only where they let unlike
    processes go ahead. A set of orders is a number with a bit for each of
    them, at its place in the list of all orders.
    """

    def __init__(self, program):
        self._program = program
        self._orders = orders(program)
        self._everything = self._set_of([True for _ in self._orders])
        self._by_rule = {rule: self._set_of([_keeps(order, rule) for order in self._orders]) for rule in rules(program)}
        # For each tuple of places of those awake the sets of orders that let each of them go ahead.
        self._first = {}
        # The sets of orders that have had the same outcomes at all starts so far.
        self._alike = [self._everything]
        self._endless = 0
        # For each number of moves the set of orders that make so many from some start.
        self._by_moves = {}
        self._play_all()

    def _set_of(self, truths):
        """The set of the orders for which a truth stands in a list."""
        return sum([1 << at for at, held in enumerate(truths) if held])

    def _orders_in(self, held):
        """The list of the orders of a set."""
        return [order for at, order in enumerate(self._orders) if held >> at & 1]

    def _play_all(self):
        """Plays all orders from all starts."""
        player = Player(self._program)
        web = Web(player)
        known = {}
        for start in starts(self._program):
            state = start_state(self._program, *start)
            if state not in known:
                known[state] = True
                # What is kept for later starts is not to grow without bounds.
                web = web if web.size() < MOST_KEPT else Web(player)
                self._take(self._ways_from(web, state))

    def _ways_from(self, web, state):
        """The list of the tuples (set of orders, outcome, moves) by which the orders part from a state."""
        root = web.number_of(state)
        told = []
        ahead = [(self._everything, root, 0, root)]
        while ahead:
            held, number, many, mark = ahead.pop()
            row = web.ahead(number)
            if not row:
                told.append((held, web.state_of(number)[0], many))
            elif many > 0 and number == mark:
                told.append((held, None, None))
            else:
                # Marks at 1, 2, 4, 8 .. moves: once one lies on a ring as long as the way to it, it is met again.
                mark = number if many & (many - 1) == 0 else mark
                ahead.extend(self._parted(held, web.state_of(number)[1], row, many + 1, mark))
        return told

    def _parted(self, held, awake, row, many, mark):
        """What is ahead of a set of orders behind each move that one of them makes."""
        sets = self._sets_by_first(awake) if awake else [held]
        return [(held & first, number, many, mark) for first, (_, number) in zip(sets, row) if held & first]

    def _sets_by_first(self, awake):
        """For each of the places of those awake the set of orders that let it go ahead of the others."""
        sets = self._first.get(awake)
        if sets is None:
            names = [self._program.names()[place] for place in awake]
            firsts = [[name for name in order if name in names][0] for order in self._orders]
            sets = [self._set_of([first == name for first in firsts]) for name in names]
            self._first[awake] = sets
        return sets

    def _take(self, ways):
        """Takes what the orders come to from one start."""
        by_outcome = {}
        for held, values, many in ways:
            by_outcome[values] = by_outcome.get(values, 0) | held
            if values is None:
                self._endless = self._endless | held
            else:
                self._by_moves[many] = self._by_moves.get(many, 0) | held
        sets = list(by_outcome.values())
        self._alike = [one & other for one in self._alike for other in sets if one & other]

    def likes(self):
        """The list of the lists of orders that have the same outcomes, by their first ones."""
        # The lowest bit of a set is that of its first order.
        sets = sorted(self._alike, key=lambda held: held & -held)
        return [self._orders_in(one) for one in sets]

    def endings(self):
        """The list of the orders that end from each start."""
        return self._orders_in(self._everything - self._endless)

    def are_settling(self, some):
        """Whether some rules settle the program."""
        held = self._everything
        for rule in some:
            held = held & self._by_rule[rule]
        if held == 0 or held & self._endless:
            return False
        return any([held & other == held for other in self._alike])

    def most_moves_by(self, order):
        """How many moves the longest run has of an order that ends from each start."""
        held = self._set_of([other == order for other in self._orders])
        return max([many for many in self._by_moves if self._by_moves[many] & held])


def like_orders(program):
    """The list of the lists of orders that have the same outcomes, each in order, by their first ones."""
    return Bundle(program).likes()


def ending(program):
    """The list of the orders that have no outcome None."""
    return Bundle(program).endings()


def settles(program, some):
    """Whether all orders that keep some rules, of which there are some, end from each start, and in the same values."""
    _check_rules(program, some)
    return Bundle(program).are_settling(some)


def least_rules(program):
    """The list of all sets of fewest rules that settle a program, as tuples; none if no order ends from each start."""
    bundle = Bundle(program)
    # So many rules, from each name of an order to the next one, leave this order alone.
    for many in range(len(program)):
        least = [row for row in sets_of(rules(program), many) if bundle.are_settling(row)]
        if least:
            return least
    return []


def quickest(program):
    """The list of the orders that end from each start, and whose longest run from any is the shortest one."""
    bundle = Bundle(program)
    rows = [(bundle.most_moves_by(order), order) for order in bundle.endings()]
    fewest = min([many for many, _ in rows], default=None)
    return [order for many, order in rows if many == fewest]
