"""Papers: answers together with what shows them."""


class Paper:
    """An answer that says yes, or tells what was asked for."""

    def __init__(self, word, *parts):
        self.word = word
        self.parts = fixed(parts)

    def __bool__(self):
        return True

    def __eq__(self, other):
        return type(self) is type(other) and self.word == other.word and self.parts == other.parts


class Denial(Paper):
    """An answer that says no."""

    def __bool__(self):
        return False


def fixed(value):
    """The value with tuples in the place of lists, all the way in."""
    if isinstance(value, (list, tuple)):
        return tuple([fixed(each) for each in value])
    return value


def is_same(one, other):
    """Whether two fixed values are equal and of the same kinds: 1 is not True here."""
    if isinstance(one, tuple) and isinstance(other, tuple):
        return len(one) == len(other) and all([is_same(mine, its) for mine, its in zip(one, other)])
    return type(one) is type(other) and one == other


def is_same_paper(paper, value):
    """Whether a value is just this paper, also as to the kinds of its parts."""
    return type(paper) is type(value) and is_same(paper.parts, value.parts)
