"""Patterns: which values of the variables are alike, and which are constants."""

from tiedsteps.errors import NoNumber, NoPattern
from tiedsteps.plain import are_unlike, is_number
from tiedsteps.rules import are_values

MOST_COUNTED = 9


def _next_number(numbers, constants):
    """The number of a new value behind those of some variables, beside so many constants."""
    return max([constants - 1, *numbers]) + 1


def pattern_of(program, values):
    """The pattern of some values."""
    if not are_values(program, values):
        raise NoPattern(values)
    numbers = {constant: number for number, constant in enumerate(program.constants())}
    for value in values:
        if value not in numbers:
            numbers[value] = len(numbers)
    return tuple([numbers[value] for value in values])


def is_pattern(program, value):
    """Whether any value is the pattern of some values."""
    if not isinstance(value, tuple) or not are_values(program, value):
        return False
    constants = len(program.constants())
    return all([0 <= number <= _next_number(value[:at], constants) for at, number in enumerate(value)])


def _values_by_number(constants, many):
    """The values of so many numbers of patterns: the constants, then the least numbers that are none."""
    values = list(constants)
    value = 0
    while len(values) < many:
        if value not in constants:
            values.append(value)
        value += 1
    return values


def values_beside(constants, pattern):
    """The values of what is known to be a pattern beside these constants."""
    values = _values_by_number(constants, _next_number(pattern, len(constants)))
    return tuple([values[number] for number in pattern])


def values_of(program, pattern):
    """The values of a pattern."""
    if not is_pattern(program, pattern):
        raise NoPattern(pattern)
    return values_beside(program.constants(), pattern)


def all_patterns(many, constants):
    """The list of all patterns of so many variables beside so many constants, ascending."""
    rows = [()]
    for _ in range(many):
        rows = [(*row, number) for row in rows for number in range(_next_number(row, constants) + 1)]
    return rows


def patterns(program):
    """A generator of all patterns, ascending."""
    for row in all_patterns(len(program.variables()), len(program.constants())):
        yield row


def pattern_count(many, constants):
    """How many patterns so many variables have beside so many constants."""
    for value in (many, constants):
        if not is_number(value) or not 0 <= value <= MOST_COUNTED:
            raise NoNumber(value)
    # How many patterns of the variables so far have how many numbers.
    counts = {constants: 1}
    for _ in range(many):
        grown = {numbers + 1: count for numbers, count in counts.items()}
        counts = {
            numbers: grown.get(numbers, 0) + counts.get(numbers, 0) * numbers
            for numbers in range(constants, constants + len(counts) + 1)
        }
    return sum(list(counts.values()))


def _are_pairs(program, values, pairs):
    """Whether any value is a dict by which values may be exchanged one to one."""
    if not isinstance(pairs, dict):
        return False
    numbers = list(pairs.keys()) + list(pairs.values())
    if not all([is_number(number) and number not in program.constants() for number in numbers]):
        return False
    unlike = sorted(set(values))
    return are_unlike(list(pairs.values())) and are_unlike([pairs.get(value, value) for value in unlike])


def exchanged(program, values, pairs):
    """The values, each one that is a key of a dict exchanged for what stands there."""
    if not are_values(program, values):
        raise NoPattern(values)
    if not _are_pairs(program, values, pairs):
        raise NoPattern(pairs)
    return tuple([pairs.get(value, value) for value in values])
