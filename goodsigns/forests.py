"""Each place of a web with the way by which it is reached from the first of its piece."""


class Forest:
    """For each place the first of its piece, the place ahead of it, and its steps from the first."""

    def __init__(self, places):
        self.tops = [None] * places
        self.ahead = [None] * places
        self.steps = [None] * places

    def begin(self, place):
        """Make a place the first of a piece."""
        self.tops[place] = place
        self.steps[place] = 0

    def reach(self, place, ahead):
        """Reach a place by one step from another one."""
        self.tops[place] = self.tops[ahead]
        self.ahead[place] = ahead
        self.steps[place] = self.steps[ahead] + 1


def forest_of(web):
    """The forest of a web: no place can be reached in fewer steps."""
    forest = Forest(web.places)
    for place in range(web.places):
        if forest.tops[place] is None:
            forest.begin(place)
            level = [place]
            while level:
                level = next_level(web, forest, level)
    return forest


def next_level(web, forest, level):
    """Reach all neighbours of the places of a level that were not reached, and return them."""
    found = []
    for place in level:
        for near in web.neighbours(place):
            if forest.tops[near] is None:
                forest.reach(near, place)
                found.append(near)
    return found


def ring_at(forest, one, other):
    """The ring that a tie closes with the ways by which its two places are reached."""
    left, right = [one], [other]
    while left[-1] != right[-1]:
        # The place that is reached in more steps goes back: so the two meet where their ways part.
        if forest.steps[left[-1]] >= forest.steps[right[-1]]:
            left.append(forest.ahead[left[-1]])
        else:
            right.append(forest.ahead[right[-1]])
    return left + right[-2::-1]
