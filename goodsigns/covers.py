"""Covers of webs, and whether two of them are alike."""

from goodsigns.errors import TooMany
from goodsigns.forests import forest_of, ring_at
from goodsigns.papers import Denial, Paper, is_same_paper
from goodsigns.signs import need_signs, told_signs
from goodsigns.webs import MOST_PLACES, Web, is_ring, need_web


class AlikeCovers(Paper):
    """Two covers are alike: the places at which copies are exchanged."""

    def __init__(self, places):
        Paper.__init__(self, "alikecovers", places)
        self.places = self.parts[0]


class UnlikeCovers(Denial):
    """Two covers are unlike: a ring along which the products are unlike."""

    def __init__(self, ring):
        Denial.__init__(self, "unlikecovers", ring)
        self.ring = self.parts[0]


def copied_ties(web, one, other, sign):
    """The two ties of a cover that are the copies of a tie."""
    if sign == 1:
        return [(one, other), (one + web.places, other + web.places)]
    return [(one, other + web.places), (one + web.places, other)]


def cover(web, signs):
    """The cover of a web by signs."""
    told = need_signs(web, signs, False)
    if 2 * web.places > MOST_PLACES:
        raise TooMany("places", MOST_PLACES)
    ties = [tie for (one, other), sign in zip(web.ties, told) for tie in copied_ties(web, one, other, sign)]
    return Web(2 * web.places, ties)


def sign_between(web, one, other):
    """For two rows of signs: for each pair of tied places, either way, 1 if both have the same sign there, else -1."""
    found = {}
    for (place, near), mine, its in zip(web.ties, one, other):
        found[(place, near)] = found[(near, place)] = mine * its
    return found


def exchange_marks(forest, changes):
    """-1 for each place at which copies are exchanged, 1 for all others, as the ties of a forest want it."""
    marks = [1] * len(forest.steps)
    for _, place in sorted([(steps, place) for place, steps in enumerate(forest.steps)]):
        ahead = forest.ahead[place]
        if ahead is not None:
            marks[place] = marks[ahead] * changes[(ahead, place)]
    return marks


def told_alike(web, changes):
    """What alike_covers tells, if this is the change of sign at each tie."""
    forest = forest_of(web)
    marks = exchange_marks(forest, changes)
    for one, other in web.ties:
        if marks[one] * marks[other] != changes[(one, other)]:
            return UnlikeCovers(ring_at(forest, one, other))
    return AlikeCovers([place for place, mark in enumerate(marks) if mark == -1])


def changes_between(web, one, other):
    """The change of sign at each tie from one row of signs to another one."""
    need_web(web, "web")
    return sign_between(web, told_signs(web, one, "one", False), told_signs(web, other, "other", False))


def alike_covers(web, one, other):
    """Whether the covers of a web by two rows of signs are alike."""
    return told_alike(web, changes_between(web, one, other))


def change_along(changes, ring):
    """The product of the changes of sign along a ring."""
    found = 1
    for at, place in enumerate(ring):
        found = found * changes[(ring[at - 1], place)]
    return found


def shows_alike_covers(web, one, other, value):
    """Whether a value is a right paper of alike_covers."""
    changes = changes_between(web, one, other)
    if type(value) is UnlikeCovers:
        return is_ring(web, value.ring) and change_along(changes, value.ring) == -1
    return is_same_paper(told_alike(web, changes), value)
