"""Chains of remainders, by which it is told whether all roots of a poly are real.

A chain begins with a poly of degree n and its derived one. Each next remainder
is, times an integer above 0, a multiple of the one ahead less the one ahead of
that. All roots are real exactly if each remainder has the degree that is one
less and a first number above 0, up to one that is 0. Each is divided by an
integer that is known to divide it, so that they stay short.
"""

from goodsigns.polys import derived_numbers
from goodsigns.quotients import exact_quotients


def chain_step(ahead, here, divisor):
    """What makes the next remainder of two: (square, lead, tail, divisor).

    It is (lead x + tail) here, less square times the one ahead, by the divisor.
    """
    first, second = (here + [0])[:2]
    return first * first, first * ahead[0], first * ahead[1] - ahead[0] * second, divisor


def next_in_chain(ahead, here, step):
    """The numbers that a step makes of two rows, where ahead has one more than here."""
    square, lead, tail, divisor = step
    found = [lead * mine + tail * its - square * old for mine, its, old in zip(here + [0], [0] + here, ahead)]
    return exact_quotients(found, divisor)


def broken_chain(poly):
    """The steps of the chain up to the first remainder that ends it, and this remainder.

    It is empty, or has zeros alone, exactly if all roots are real.
    """
    ahead, here = list(poly.numbers), derived_numbers(poly.numbers)
    steps = []
    divisor = 1
    while here and here[0] > 0:
        step = chain_step(ahead, here, divisor)
        steps.append(step)
        divisor = step[0]
        # The first two numbers are 0, by the choice of lead and tail.
        ahead, here = here, next_in_chain(ahead, here, step)[2:]
    return steps, here


def cofactor(steps):
    """The numbers that, times the derived poly, leave the last remainder behind multiples of the poly."""
    ahead, here = [], [1]
    for step in steps:
        ahead, here = here, next_in_chain([0, 0] + ahead, here, step)
    return here
