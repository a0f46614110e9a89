"""The errors of the package; each keeps what it was made of."""


class TiedError(ValueError):
    """A value that is not what it must be."""


class NoTerm(TiedError):
    """A value that is no term."""

    def __init__(self, value):
        super().__init__("no term")
        self.value = value


class NoDeed(TiedError):
    """A value that is no deed, or no index of one."""

    def __init__(self, value):
        super().__init__("no deed")
        self.value = value


class NoProcess(TiedError):
    """The first part of a process that is not as it must be."""

    def __init__(self, part):
        super().__init__("no process")
        self.part = part


class NoProgram(TiedError):
    """The first part of a program that is not as it must be."""

    def __init__(self, part):
        super().__init__("no program")
        self.part = part


class NoPattern(TiedError):
    """A value that is no pattern, or has none."""

    def __init__(self, value):
        super().__init__("no pattern")
        self.value = value


class NoStart(TiedError):
    """A value that is no start, or no part of one."""

    def __init__(self, value):
        super().__init__("no start")
        self.value = value


class NoMove(TiedError):
    """The index of the first move that is not possible."""

    def __init__(self, index):
        super().__init__("no possible move")
        self.index = index


class NothingBack(TiedError):
    """So many deeds cannot be taken back."""

    def __init__(self, many):
        super().__init__("nothing to take back")
        self.many = many


class NoNumber(TiedError):
    """A value that is no number, or one out of its limits."""

    def __init__(self, value):
        super().__init__("no such number")
        self.value = value


class NoPlace(TiedError):
    """A value that is no place of a deed at once."""

    def __init__(self, value):
        super().__init__("no place")
        self.value = value


class NoPair(TiedError):
    """A value that cannot be compared."""

    def __init__(self, value):
        super().__init__("no pair")
        self.value = value


class NoNote(TiedError):
    """The number of the first row that is not written as it must be."""

    def __init__(self, line):
        super().__init__("no note")
        self.line = line


class NoOrder(TiedError):
    """A value that is no order, or no rule of one."""

    def __init__(self, value):
        super().__init__("no order")
        self.value = value


class NoFault(TiedError):
    """A fault that is not there, or one that is in the way."""

    def __init__(self, value):
        super().__init__("no such fault")
        self.value = value


class NoPlan(TiedError):
    """A moment for which nothing can be planned."""

    def __init__(self, value):
        super().__init__("no plan")
        self.value = value


class TooMany(OverflowError):
    """More states or moves than were allowed."""

    def __init__(self, most):
        super().__init__("too many")
        self.most = most


class NoName(KeyError):
    """A value that is none of the names."""

    def __init__(self, who):
        super().__init__("no such name")
        self.who = who


class NeverEnds(RuntimeError):
    """A moment that came to a state twice behind so many moves."""

    def __init__(self, many):
        super().__init__("never ends")
        self.many = many
