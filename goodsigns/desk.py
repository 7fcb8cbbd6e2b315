"""A desk that keeps bounds, polys and webs by names, and is told lines."""

from goodsigns.checks import is_name, is_row
from goodsigns.choices import good_signs
from goodsigns.covers import cover
from goodsigns.errors import BadLine, BadNumber, Misfit, NoName, Nothing, SignsError, TooMany, Twice
from goodsigns.lines import FORMS, kind_of, read_line
from goodsigns.meansums import mean_sum
from goodsigns.pairings import pairing_poly
from goodsigns.reals import within
from goodsigns.texts import MOST_DIGITS, integer_text


class Deed:
    """A line that was told, and what is kept by a name ahead of it and behind it, None for nothing."""

    def __init__(self, line, name, ahead, behind):
        self.line = line
        self.name = name
        self.ahead = ahead
        self.behind = behind


class Desk:
    """What is kept by names, the deeds that stand, and those that were taken back."""

    def __init__(self):
        self._held = {}
        self._standing = []
        self._taken = []

    def tell(self, line):
        """Do what a line tells, and return its answer."""
        told = read_line(line)
        values = [self._value_by(name, kind) for name, kind in zip(told.called, FORMS[told.word])]
        behind, answer = outcome(told, values)
        if behind != values[0]:
            self._put(told.called[0], behind)
            self._standing.append(Deed(line, told.called[0], values[0], behind))
            self._taken = []
        return answer

    def _value_by(self, name, kind):
        """What is kept by a name of a line, of the kind that it wants; None by a new name."""
        if kind == "new":
            if name in self._held:
                raise Twice(name)
            return None
        value = self.kept(name)
        if kind not in ("any", kind_of(value)):
            raise Misfit(kind)
        return value

    def _put(self, name, value):
        """Keep a value by a name, or nothing if it is None."""
        if value is None:
            del self._held[name]
        else:
            self._held[name] = value

    def names(self):
        """All names that are kept, ascending."""
        return tuple(sorted(self._held))

    def kept(self, name):
        """What is kept by a name."""
        if not is_name(name) or name not in self._held:
            raise NoName(name)
        return self._held[name]

    def back(self):
        """Take the last deed back."""
        if not self._standing:
            raise Nothing()
        deed = self._standing.pop()
        self._put(deed.name, deed.ahead)
        self._taken.append(deed)

    def again(self):
        """Do the deed again that was taken back last."""
        if not self._taken:
            raise Nothing()
        deed = self._taken.pop()
        self._put(deed.name, deed.behind)
        self._standing.append(deed)

    def done(self):
        """The lines of all deeds that stand, in their order."""
        return tuple([deed.line for deed in self._standing])

    @staticmethod
    def read(lines):
        """A new desk that was told these lines."""
        if not is_row(lines) or not all([isinstance(line, str) for line in lines]):
            raise BadNumber("lines")
        desk = Desk()
        for at, line in enumerate(lines):
            try:
                desk.tell(line)
            except SignsError as error:
                raise BadLine(at, error)
        return desk


def outcome(line, values):
    """What is kept by the first name of a line behind it, None for nothing, and the answer.

    The values are those that are kept by its names ahead of it.
    """
    if line.word == "keep":
        return line.value, "kept"
    found = OUTCOMES[line.word]
    return found(values)


def pair_outcome(values):
    """The outcome of pair."""
    _, web = values
    poly = pairing_poly(web)
    return poly, str(poly)


def add_outcome(values):
    """The outcome of add."""
    _, one, other = values
    poly = mean_sum(one, other)
    if any([len(integer_text(abs(number))) > MOST_DIGITS for number in poly.numbers]):
        raise TooMany("digits", MOST_DIGITS)
    return poly, str(poly)


def sign_outcome(values):
    """The outcome of sign."""
    _, web, bound = values
    paper = good_signs(web, bound, list(range(len(web.ties))))
    if not paper:
        return None, "toogreat " + str(paper.power)
    return cover(web, paper.signs), " ".join(["signs"] + [str(sign) for sign in paper.signs])


def within_outcome(values):
    """The outcome of within."""
    poly, bound = values
    paper = within(poly, bound)
    return poly, "none" if paper else "above " + str(paper.power)


def drop_outcome(values):
    """The outcome of drop."""
    return None, "dropped"


OUTCOMES = {
    "pair": pair_outcome,
    "add": add_outcome,
    "sign": sign_outcome,
    "within": within_outcome,
    "drop": drop_outcome,
}
