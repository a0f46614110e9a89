"""Sources: the constants and variables whose values at a start the variables have at its end."""


def sources_of(program, values, end):
    """For each value at an end the first constant, or else variable, that has it at the start with these values."""
    first = {constant: constant for constant in program.constants()}
    for variable, value in zip(program.variables(), values):
        first.setdefault(value, variable)
    return tuple([first[value] for value in end])


def values_from(program, values, sources):
    """What some sources have at a start with these values."""
    now = dict(zip(program.variables(), values))
    return tuple([now[source] if isinstance(source, str) else source for source in sources])
