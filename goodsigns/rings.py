"""Whether a web has more rings than so many.

A ring is told from its least place on, with the lesser one of its neighbours
there as the second place: so each ring is told once. A row of places is led on
only to where it can still be closed. So no step is in vain: if the rings are
too many, this is known soon.
"""

from goodsigns.webs import pieces


def has_ring(web):
    """Whether a web has a ring."""
    return len(web.ties) > web.places - len(pieces(web))


def masks_of(web):
    """For each place its neighbours, as the bits of an integer."""
    return [sum([1 << near for near in web.neighbours(place)]) for place in range(web.places)]


def places_of(mask):
    """The places whose bits an integer has, ascending."""
    found = []
    while mask:
        low = mask & -mask
        found.append(low.bit_length() - 1)
        mask = mask - low
    return found


def closing_places(masks, goals, room):
    """The bits of the places of the room from which one of the goals, in the room, can be reached."""
    found = goals & room
    fresh = found
    while fresh:
        low = fresh & -fresh
        near = masks[low.bit_length() - 1] & room & ~found
        found = found | near
        fresh = (fresh - low) | near
    return found


def count_closings(masks, place, room, goals, most):
    """How many rows lead from a place through the room to one of the goals; above most if they are more."""
    found = 0
    for near in places_of(masks[place] & closing_places(masks, goals, room)):
        if found > most:
            break
        found = found + (goals >> near & 1)
        found = found + count_closings(masks, near, room & ~(1 << near), goals, most - found)
    return found


def has_more_rings(web, most):
    """Whether a web has more rings than so many."""
    masks = masks_of(web)
    found = 0
    for first in range(web.places):
        room = (1 << web.places) - (2 << first)
        for second in places_of(masks[first] & room):
            goals = masks[first] & -(2 << second)
            found = found + count_closings(masks, second, room & ~(1 << second), goals, most - found)
            if found > most:
                return True
    return False
