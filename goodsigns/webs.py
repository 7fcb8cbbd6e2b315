"""Webs: places, some of them tied two by two."""

from goodsigns.checks import are_integers, is_row, is_within, need_integer, need_integers, need_unlike
from goodsigns.errors import BadWeb, Misfit, NoPlace, NoTie, Twice
from goodsigns.forests import forest_of, ring_at
from goodsigns.papers import Denial, Paper, is_same_paper
from goodsigns.texts import integer_at, items_of, need_item

MOST_PLACES = 60


class Web:
    """A web, told by the number of its places and by its ties."""

    def __init__(self, places, ties):
        self.places = need_integer(places, "places", 1, MOST_PLACES)
        self.ties = sorted_ties(places, ties)
        self._near = near_places(places, self.ties)
        self.most = max([len(row) for row in self._near])

    def __eq__(self, other):
        return isinstance(other, Web) and self.places == other.places and self.ties == other.ties

    def __str__(self):
        return " ".join([str(self.places), ":"] + [str(place) for tie in self.ties for place in tie])

    def neighbours(self, place):
        """The places that are tied to a place, ascending."""
        need_place(self, place)
        return self._near[place]

    @staticmethod
    def read(text):
        """The Web whose text this is."""
        items = items_of(text)
        places = integer_at(items, 0, 1, MOST_PLACES)
        need_item(items, 1, ":")
        return Web(places, read_ties(items, places))


class Sides(Paper):
    """A web has two sides: the mark of each place, 0 or 1."""

    def __init__(self, marks):
        Paper.__init__(self, "sides", marks)
        self.marks = self.parts[0]


class OddRing(Denial):
    """A web has no two sides: a ring with an odd number of places."""

    def __init__(self, ring):
        Denial.__init__(self, "oddring", ring)
        self.ring = self.parts[0]


def are_pairs(value):
    """Whether a value is a list of pairs of integers."""
    return is_row(value) and all([are_integers(each) and len(each) == 2 for each in value])


def sorted_ties(places, ties):
    """The ties, the lesser place of each first, ascending."""
    if not are_pairs(ties):
        raise BadWeb("ties")
    found = {}
    for one, other in ties:
        need_among(places, one)
        need_among(places, other)
        if one == other:
            raise Misfit("tie")
        tie = (min(one, other), max(one, other))
        if tie in found:
            raise Twice(tie)
        found[tie] = True
    return tuple(sorted(found))


def near_places(places, ties):
    """For each place the places that are tied to it, ascending."""
    near = [[] for _ in range(places)]
    for one, other in ties:
        near[one].append(other)
        near[other].append(one)
    return tuple([tuple(sorted(row)) for row in near])


def read_ties(items, places):
    """The ties that stand behind the colon of a web's text, ascending."""
    ties = []
    first, second = 0, 0
    for at in range(2, len(items), 2):
        one = integer_at(items, at, first, places - 1)
        least = second if one == first else one
        other = integer_at(items, at + 1, least + 1, places - 1)
        ties.append((one, other))
        first, second = one, other
    return ties


def need_web(value, part):
    """The value, if it is a Web."""
    if not isinstance(value, Web):
        raise BadWeb(part)
    return value


def need_among(places, value):
    """The value, if it is one of so many places."""
    if not is_within(value, 0, places - 1):
        raise NoPlace(value)
    return value


def need_place(web, value):
    """The value, if it is a place of the web."""
    return need_among(web.places, value)


def need_tie(web, value):
    """The value, if it is the number of a tie of the web."""
    if not is_within(value, 0, len(web.ties) - 1):
        raise NoTie(value)
    return value


def need_alike_places(web):
    """Require that all places have the same number of neighbours, two or more."""
    if web.most < 2 or not all([len(web.neighbours(place)) == web.most for place in range(web.places)]):
        raise Misfit("ties")


def pieces(web):
    """The pieces of a web, each a tuple of its places."""
    need_web(web, "web")
    held = {}
    for place, top in enumerate(forest_of(web).tops):
        held.setdefault(top, []).append(place)
    return tuple([tuple(held[top]) for top in sorted(held)])


def is_joined(web):
    """Whether a web has one piece alone."""
    return len(pieces(web)) == 1


def places_without(web, gone):
    """The places of a web that stay without those that go, ascending."""
    need_web(web, "web")
    need_integers(gone, "gone")
    for place in gone:
        need_place(web, place)
    need_unlike(gone)
    staying = [place for place in range(web.places) if place not in gone]
    if not staying:
        raise Misfit("gone")
    return staying


def without(web, gone):
    """The web of the other places with the ties between them, its places numbered anew."""
    staying = places_without(web, gone)
    anew = {place: at for at, place in enumerate(staying)}
    return Web(len(staying), [(anew[one], anew[other]) for one, other in web.ties if one in anew and other in anew])


def is_ring(web, value):
    """Whether a value is a tuple of places that are a ring of the web."""
    if not are_integers(value) or len(value) < 3 or len(set(value)) < len(value):
        return False
    if not all([is_within(place, 0, web.places - 1) for place in value]):
        return False
    return all([value[at] in web.neighbours(value[at - 1]) for at in range(len(value))])


def two_sides(web):
    """Whether a web has two sides."""
    need_web(web, "web")
    forest = forest_of(web)
    marks = [steps % 2 for steps in forest.steps]
    for one, other in web.ties:
        if marks[one] == marks[other]:
            # Tied places are one step apart at most, so these two are reached in equally many: the ring is odd.
            return OddRing(ring_at(forest, one, other))
    return Sides(marks)


def shows_two_sides(web, value):
    """Whether a value is a right paper of two_sides."""
    need_web(web, "web")
    if type(value) is OddRing:
        return is_ring(web, value.ring) and len(value.ring) % 2 == 1
    return is_same_paper(two_sides(web), value)
