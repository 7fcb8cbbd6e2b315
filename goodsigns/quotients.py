"""Quotients of long integers that leave nothing.

Python divides long integers slowly and multiplies them fast. A quotient that
leaves nothing is told by its lowest bits alone, and these by a product.
"""


def odd_inverse(number, bits):
    """The integer below 2^bits that, times an odd number, has 1 as its lowest bits."""
    # An odd number is its own inverse to 3 bits; each round doubles the bits that are right.
    found, known = number & 7, 3
    while known < bits:
        known = min(2 * known, bits)
        mask = (1 << known) - 1
        found = (found * (2 - (number & mask) * found)) & mask
    return found & ((1 << bits) - 1)


def exact_quotients(numbers, divisor):
    """Each of the numbers by a divisor above 0 that divides them all."""
    longest = max([number.bit_length() for number in numbers])
    # One bit for the quotient's sign, one as the divisor can be less than its bits tell.
    bits = max(longest - divisor.bit_length() + 2, 1)
    zeros = (divisor & -divisor).bit_length() - 1
    inverse = odd_inverse(divisor >> zeros, bits)
    mask = (1 << bits) - 1
    low = [(((number >> zeros) & mask) * inverse) & mask for number in numbers]
    return [each if each <= mask // 2 else each - mask - 1 for each in low]
