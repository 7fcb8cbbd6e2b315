"""Frames of webs, and the classes of signs that they tell apart."""


def labels_of(web):
    """A label for each place, all unlike, as long as no tie is taken."""
    return list(range(web.places))


def merged(labels, one, other):
    """The labels once two places are in one piece."""
    return [labels[one] if label == labels[other] else label for label in labels]


def beyond_frame(web):
    """The numbers of the ties that are not in the frame, ascending."""
    labels = labels_of(web)
    found = []
    for tie, (one, other) in enumerate(web.ties):
        if labels[one] == labels[other]:
            found.append(tie)
        labels = merged(labels, one, other)
    return found


def first_signs(web):
    """The first signs of all classes, in the order of the classes."""
    beyond = beyond_frame(web)
    return [signs_with(web, beyond, number) for number in range(1 << len(beyond))]


def signs_with(web, beyond, number):
    """Signs that are 1, but -1 at those of some ties where an integer has a bit, the last tie the lowest one."""
    signs = [1] * len(web.ties)
    for at, tie in enumerate(reversed(beyond)):
        if number >> at & 1:
            signs[tie] = -1
    return tuple(signs)
