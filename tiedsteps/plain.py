"""What all parts of the package ask of plain values."""

LETTERS = "abcdefghijklmnopqrstuvwxyz"
MOST_LETTERS = 8


def is_number(value):
    """Whether a value is an int and no truth."""
    return isinstance(value, int) and not isinstance(value, bool)


def is_index(value, many):
    """Whether a value is a number from 0 to one less than many."""
    return is_number(value) and 0 <= value < many


def is_word(value):
    """Whether a value is a text of one to eight small letters."""
    if not isinstance(value, str) or not 1 <= len(value) <= MOST_LETTERS:
        return False
    return all([sign in LETTERS for sign in value])


def is_row(value):
    """Whether a value is a list or a tuple."""
    return isinstance(value, (list, tuple))


def is_short_row(value, most):
    """Whether a value is a list or tuple of one to so many items."""
    return is_row(value) and 1 <= len(value) <= most


def are_numbers(value, many):
    """Whether a value is a list or tuple of so many numbers."""
    return is_row(value) and len(value) == many and all([is_number(item) for item in value])


def are_unlike(words):
    """Whether no word stands twice in a list."""
    return len(set(words)) == len(words)


def are_unlike_words(value, most):
    """Whether a value is a list or tuple of one to so many unlike words."""
    if not is_short_row(value, most) or not all([is_word(item) for item in value]):
        return False
    return are_unlike(value)


def ascending(values):
    """The words or numbers of a list, each once, ascending."""
    return sorted(set(values))


def sets_of(row, many):
    """All tuples of so many items of a row, in their order, as the items stand in it."""
    if many == 0:
        return [()]
    return [(item, *rest) for at, item in enumerate(row) for rest in sets_of(row[at + 1:], many - 1)]
