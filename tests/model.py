"""A second way to play programs, slow and by the words of the document, beside which the package is laid.

It plays with names: the values and what is later are dicts, those awake a set.
"""

import random

from tiedsteps.errors import NoProgram
from tiedsteps.processes import Process
from tiedsteps.programs import Program


def opened(program, state):
    values, awake, later = state
    variables, names = program.variables(), program.names()
    return (
        dict(zip(variables, values)),
        {names[place] for place in awake},
        {variables[place]: value for place, value in later},
    )


def closed(program, values, awake, later):
    variables, names = program.variables(), program.names()
    return (
        tuple(values[name] for name in variables),
        tuple(place for place, name in enumerate(names) if name in awake),
        tuple((place, later[name]) for place, name in enumerate(variables) if name in later),
    )


def waiting(program, variable):
    return {name for name in program.names() if variable in program[name].waits()}


def start_state(program, values, changed):
    awake = set()
    for name in changed:
        awake |= waiting(program, name)
    return closed(program, dict(zip(program.variables(), values)), awake, {})


def next_states(program, state):
    """The dict from the possible moves, in order, to the states behind them."""
    values, awake, later = opened(program, state)
    if not awake and later:
        woken = set()
        for name, value in later.items():
            if values[name] != value:
                woken |= waiting(program, name)
        return {"turn": closed(program, {**values, **later}, woken, {})}
    return {name: after(program, state, name) for name in program.names() if name in awake}


def after(program, state, name):
    values, awake, later = opened(program, state)
    awake.discard(name)
    for deed in program[name].deeds():
        value = deed.term(values)
        if deed.late:
            later[deed.variable] = value
        elif values[deed.variable] != value:
            values[deed.variable] = value
            awake |= waiting(program, deed.variable) - {name}
    return closed(program, values, awake, later)


def table(program, state):
    """The dict from all states, as they are met by breadth, to the dicts of what stands behind them."""
    told = {state: None}
    ahead = [state]
    for one in ahead:
        told[one] = next_states(program, one)
        for other in told[one].values():
            if other not in told:
                told[other] = None
                ahead.append(other)
    return told


def ends(program, state):
    return sorted({one[0] for one, behind in table(program, state).items() if not behind})


def longest(program, state):
    """The most moves of a run, None if one never ends: then no bound of moves holds all runs."""
    told = table(program, state)
    many, here = 0, {state}
    while many <= len(told):
        ahead = {other for one in here for other in told[one].values()}
        if not ahead:
            return many
        many, here = many + 1, ahead
    return None


def played(program, state, run):
    for move in run:
        state = next_states(program, state)[move]
    return state


def starts(program):
    """All starts, with the values told from 0 on in every way, each pattern once."""
    from itertools import combinations, product

    constants, variables = program.constants(), program.variables()
    fresh = [value for value in range(len(variables) + 2) if value not in constants][:len(variables)]
    inputs = sorted(program.inputs())
    changes = [row for many in range(1, len(inputs) + 1) for row in combinations(inputs, many)]
    told = []
    for values in product(constants + fresh, repeat=len(variables)):
        unlike = list(dict.fromkeys(value for value in values if value not in constants))
        if unlike == fresh[:len(unlike)]:
            told.append(values)
    rank = {value: place for place, value in enumerate(constants + fresh)}
    told.sort(key=lambda values: [rank[value] for value in values])
    return [(values, changed) for values in told for changed in changes]


def some_programs(many, seed, *, processes=3):
    """So many programs, the same at each call."""
    chance = random.Random(seed)
    told = []
    while len(told) < many:
        try:
            told.append(one_program(chance, processes))
        except NoProgram:
            continue
    return told


def one_program(chance, processes):
    inputs = ["a", "b"][:chance.choice([1, 1, 2])]
    others = ["c", "d", "e"][:chance.choice([1, 2, 2])]
    numbers = chance.sample(range(10), 2)

    def leaf():
        return chance.choice(inputs + others + numbers[:1] + chance.choice([[], numbers]))

    def term():
        if chance.random() < 0.6:
            return str(leaf())
        return f"({leaf()}={leaf()}?{leaf()}:{leaf()})"

    def process(name):
        waits = chance.sample(inputs + others, chance.choice([1, 1, 2]))
        deeds = [f"{chance.choice(others)} {chance.choice([':=', ':=', '<='])} {term()}"
                 for _ in range(chance.choice([1, 1, 2]))]
        return Process(name, waits, deeds)

    return Program([process(name) for name in ["q", "p", "s", "r", "t"][:chance.randint(1, processes)]], inputs)
