"""Terms: constants, variables, and choices between terms.

Behind each term stands a tree: a number, a word, or a tuple of the trees of
the four parts of a choice.
"""

from tiedsteps.errors import NoName, NoTerm
from tiedsteps.plain import LETTERS, MOST_LETTERS, ascending, is_number, is_word

DIGITS = "0123456789"
MOST_CONSTANT = 9
MOST_DEPTH = 3
# Each part of a choice stands behind one of these signs.
PART_SIGNS = "(=?:"


def _word_end(text, at):
    """The index behind the small letters that stand from an index on."""
    end = at
    while end < len(text) and text[end] in LETTERS:
        end += 1
    return end


def _choice_at(text, at, room):
    """As _tree_at, for a choice."""
    parts = []
    for sign in PART_SIGNS:
        found = _tree_at(text, at + 1, room - 1) if text[at:at + 1] == sign else None
        if found is None:
            return None
        part, at = found
        parts.append(part)
    if text[at:at + 1] != ")":
        return None
    return tuple(parts), at + 1


def _tree_at(text, at, room):
    """The pair (tree, index behind it) of the term that begins at an index, or None.

    The room is the depth that it may have: so a text of any length is left
    after a few levels, however many brackets it opens.
    """
    if room < 1 or at >= len(text):
        return None
    if text[at] == "(":
        return _choice_at(text, at, room)
    if text[at] in DIGITS:
        return int(text[at]), at + 1
    end = _word_end(text, at)
    if 1 <= end - at <= MOST_LETTERS:
        return text[at:end], end
    return None


def _tree_of_text(text):
    """The tree of the text of a term, None if it is none."""
    found = _tree_at(text, 0, MOST_DEPTH)
    if found is None:
        return None
    tree, end = found
    return tree if end == len(text) else None


def _tree_of(value):
    """The tree of a Term or of what makes one, None of any other value."""
    if isinstance(value, Term):
        return value._tree
    if isinstance(value, str):
        return _tree_of_text(value)
    return value if is_number(value) and 0 <= value <= MOST_CONSTANT else None


def _needed_tree(value):
    """As _tree_of; raises NoTerm where there is none."""
    tree = _tree_of(value)
    if tree is None:
        raise NoTerm(value)
    return tree


def _text_of(tree):
    """The text of a tree of any depth."""
    if not isinstance(tree, tuple):
        return str(tree)
    one, other, same, unlike = [_text_of(part) for part in tree]
    return f"({one}={other}?{same}:{unlike})"


def _depth_of(tree):
    """The depth of a tree: 1 without parts, otherwise one more than its parts have."""
    if not isinstance(tree, tuple):
        return 1
    return 1 + max([_depth_of(part) for part in tree])


def _kind_of(tree):
    """What a tree is: a constant, a variable or a choice."""
    if isinstance(tree, tuple):
        return "choice"
    return "variable" if isinstance(tree, str) else "constant"


def _leaves_of(tree):
    """The constants and variables of a tree, as they stand in it."""
    if not isinstance(tree, tuple):
        return [tree]
    return [leaf for part in tree for leaf in _leaves_of(part)]


def _value_of(tree, values):
    """The value of a tree, where each of its variables has a value."""
    if isinstance(tree, str):
        return values[tree]
    if not isinstance(tree, tuple):
        return tree
    one, other, same, unlike = tree
    if _value_of(one, values) == _value_of(other, values):
        return _value_of(same, values)
    return _value_of(unlike, values)


def _exchanged(tree, trees):
    """A tree with the trees of a dict in the place of its variables."""
    if isinstance(tree, tuple):
        return tuple([_exchanged(part, trees) for part in tree])
    return trees.get(tree, tree)


def _stands_in(tree, whole):
    """Whether a tree is another one or stands anywhere in it."""
    if tree == whole:
        return True
    return isinstance(whole, tuple) and any([_stands_in(tree, part) for part in whole])


class Term:
    """A constant, a variable or a choice; it never changes."""

    def __init__(self, value):
        tree = _needed_tree(value)
        self._tree = tree
        self._text = _text_of(tree)
        self._depth = _depth_of(tree)
        self._kind = _kind_of(tree)
        self._leaves = _leaves_of(tree)
        self._variables = ascending([leaf for leaf in self._leaves if isinstance(leaf, str)])
        self._constants = ascending([leaf for leaf in self._leaves if not isinstance(leaf, str)])

    @staticmethod
    def choice(one, other, same, unlike):
        """The choice of four terms, or of what makes them."""
        tree = tuple([_needed_tree(value) for value in [one, other, same, unlike]])
        # The text of a choice that is too deep is no text of a term.
        return Term(_text_of(tree))

    def __str__(self):
        return str(self._text)

    def __eq__(self, other):
        return isinstance(other, Term) and self._text == other._text

    def __len__(self):
        return len(self._leaves)

    def __contains__(self, value):
        if isinstance(value, str):
            return value in self._variables
        return is_number(value) and value in self._constants

    def __call__(self, values):
        if not isinstance(values, dict):
            raise NoTerm(values)
        for name in self._variables:
            if not is_number(values.get(name)):
                raise NoName(name)
        return self.worth(values)

    @property
    def depth(self):
        """1 of a constant or variable, one more than its parts have of a choice."""
        return self._depth

    @property
    def kind(self):
        """What it is: "constant", "variable" or "choice"."""
        return self._kind

    def variables(self):
        """Its variables, each once, ascending."""
        return list(self._variables)

    def constants(self):
        """Its constants, each once, ascending."""
        return list(self._constants)

    def parts(self):
        """The four terms of a choice, none of others."""
        if not isinstance(self._tree, tuple):
            return []
        return [Term(_text_of(part)) for part in self._tree]

    def worth(self, values):
        """Its value, where a dict is known to have a number for each of its variables."""
        return _value_of(self._tree, values)

    def put(self, terms):
        """The term with other terms in the place of some variables, all at once."""
        if not isinstance(terms, dict) or not all([is_word(name) for name in terms]):
            raise NoTerm(terms)
        trees = {name: _needed_tree(terms[name]) for name in terms}
        return Term(_text_of(_exchanged(self._tree, trees)))

    def within(self, other):
        """Whether it stands in another term, or is equal to it."""
        if not isinstance(other, Term):
            raise NoTerm(other)
        return _stands_in(self._tree, other._tree)
