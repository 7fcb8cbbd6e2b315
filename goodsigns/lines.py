"""Lines of a desk, read from the left."""

from goodsigns.bounds import Bound
from goodsigns.checks import is_name
from goodsigns.errors import BadText
from goodsigns.polys import Poly
from goodsigns.texts import items_of, need_end
from goodsigns.webs import Web

KINDS = ("bound", "poly", "web")
# For each word the names behind it: a new one that is not kept, or ones that are kept, of a kind or of any.
FORMS = {
    "keep": ("new",),
    "pair": ("new", "web"),
    "add": ("new", "poly", "poly"),
    "sign": ("new", "web", "bound"),
    "within": ("poly", "bound"),
    "drop": ("any",),
}


class Line:
    """A line: its word, the names behind it, and the value whose text it has, None if it has none."""

    def __init__(self, word, called, value):
        self.word = word
        self.called = called
        self.value = value


def need_word(items, at, words):
    """The item at this index, if it is one of some words."""
    if at >= len(items) or items[at] not in words:
        raise BadText(0, at)
    return items[at]


def need_name(items, at):
    """The item at this index, if it is a name."""
    if at >= len(items) or not is_name(items[at]):
        raise BadText(0, at)
    return items[at]


def kind_of(value):
    """The kind of a value that is kept."""
    if isinstance(value, Bound):
        return "bound"
    return "poly" if isinstance(value, Poly) else "web"


def read_kind(kind, text):
    """The value of a kind whose text this is."""
    if kind == "bound":
        return Bound.read(text)
    return Poly.read(text) if kind == "poly" else Web.read(text)


def read_value(items, at):
    """The value that is told by its kind at this index and by its text behind."""
    kind = need_word(items, at, KINDS)
    try:
        return read_kind(kind, " ".join(items[at + 1:]))
    except BadText as error:
        # The text's own items are counted from 0, and stand behind the kind.
        raise BadText(0, at + 1 + error.item)


def read_line(line):
    """The Line that a string tells."""
    items = items_of(line)
    word = need_word(items, 0, list(FORMS))
    called = [need_name(items, at) for at in range(1, len(FORMS[word]) + 1)]
    if word == "keep":
        return Line(word, called, read_value(items, len(called) + 1))
    need_end(items, len(called) + 1)
    return Line(word, called, None)
