"""Means of signs, found by a sweep over the places of a web.

What counts in a mean is told by ties there and back, by rings of set ties, and
by places that are left alone, none sharing a place with another. The sweep
leaves one place after the other, and keeps the sum of all that comes to one
state: it has for each place itself while it is single, TAKEN once nothing more
can come to it, and else the place at the other end of the row of set ties that
ends at it. A row that is still open must become a ring later on.

The sweep reckons with one great integer in the place of x, off whose worth the
numbers of the mean are read.
"""

from itertools import combinations

TAKEN = -1


def growth(web, left, edge, place):
    """By how many places the edge grows if this place is left next."""
    found = [near for near in web.neighbours(place) if near in left and near not in edge]
    return len(found) - (1 if place in edge else 0)


def sweep_order(web):
    """The places of a web, so ordered that few are still ahead and tied to one behind: the edge."""
    left = {place: True for place in range(web.places)}
    edge = {}
    order = []
    while left:
        # A place of the edge comes first among equals: so a piece is ended ahead of the next one.
        place = min([(growth(web, left, edge, each), each not in edge, each) for each in left])[2]
        order.append(place)
        del left[place]
        edge = {each: True for each in left if each in edge or each in web.neighbours(place)}
    return order


def ties_by_place(web, signs):
    """For each place its neighbours, each with the sign of the tie."""
    found = [[] for _ in range(web.places)]
    for (one, other), sign in zip(web.ties, signs):
        found[one].append((other, sign))
        found[other].append((one, sign))
    return found


def taken(state, *places):
    """The state in which these places are taken, too."""
    found = list(state)
    for place in places:
        found[place] = TAKEN
    return tuple(found)


def joined(state, one, other, sign):
    """The state behind a set tie of two places that are not taken, and the factor that it brings."""
    if state[one] == other:
        # They end one row, which becomes a ring; it is told either way round.
        return taken(state, one, other), -2 * sign
    found = list(state)
    found[one] = found[other] = TAKEN
    # A single place is its own other end, so it becomes an end here.
    found[state[one]] = state[other]
    found[state[other]] = state[one]
    return tuple(found), sign


def states_behind(state, place, ties, x):
    """The states to which a state leads when a place is left, each with its factor."""
    if state[place] == TAKEN:
        return [(state, 1)]
    near = [(other, sign) for other, sign in ties if state[other] != TAKEN]
    set_ties = [(other, sign) for other, sign in near if sign != 0]
    if state[place] != place:
        return [joined(state, place, other, sign) for other, sign in set_ties]
    found = [(taken(state, place), x)]
    found = found + [(taken(state, place, other), -1) for other, _ in near if state[other] == other]
    for (one, mine), (other, its) in combinations(set_ties, 2):
        between, factor = joined(state, place, one, mine)
        behind, more = joined(between, place, other, its)
        found.append((behind, factor * more))
    return found


def worth_of_mean(web, signs, x):
    """What the mean of signs is at an integer."""
    ties = ties_by_place(web, signs)
    sums = {tuple(range(web.places)): 1}
    for place in sweep_order(web):
        found = {}
        for state, worth in sums.items():
            for behind, factor in states_behind(state, place, ties[place], x):
                found[behind] = found.get(behind, 0) + factor * worth
        sums = found
    # All places are taken in the end, so there is one state alone.
    return sums[(TAKEN,) * web.places]


def numbers_from(worth, degree, bits):
    """The numbers, of a degree, that are worth this at 2^bits, each of them nearer to 0 than half of it."""
    found = []
    for _ in range(degree + 1):
        low = worth & ((1 << bits) - 1)
        number = low - (1 << bits) if low >> (bits - 1) else low
        found.append(number)
        worth = (worth - number) >> bits
    return found[::-1]


def mean_numbers(web, signs):
    """The numbers of the mean of signs, that of the highest power first."""
    # All that counts tells for each place itself or one of its neighbours: so no number is above this product.
    most = 1
    for place in range(web.places):
        most = most * (1 + len(web.neighbours(place)))
    bits = most.bit_length() + 1
    return numbers_from(worth_of_mean(web, signs, 1 << bits), web.places, bits)
