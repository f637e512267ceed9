"""Fractions from nought to one, as pairs of integers without a common divisor.

Within one question all that is reckoned is kept as integers, so many parts
of one whole: the product of all that chance's odds divide by.
"""

from math import gcd

from marksinturn.shapes import is_count, is_tuple_of


def is_fraction(thing):
    """Whether an object is a pair p of q, shortest, from nought to one."""
    if not is_tuple_of(thing, 2):
        return False
    p, q = thing
    if not is_count(p) or not is_count(q):
        return False
    return p <= q and q > 0 and gcd(p, q) == 1


def fraction_of(part, whole):
    """The shortest pair for so many parts of a whole."""
    common = gcd(part, whole)
    return (part // common, whole // common)


def whole_of(question):
    """How many parts a question's whole has."""
    whole = 1
    for hand in question.hands:
        if not isinstance(hand, str):
            whole *= hand[1]
    return whole


def mean_of(odds, no, yes):
    """What chance's odds make of the parts with No and with Yes."""
    p, q = odds
    return ((q - p) * no + p * yes) // q


def better_of(hand, no, yes):
    """The parts that a mark's hand gets of those with No and with Yes."""
    if hand == "we":
        return max(no, yes)
    if hand == "they":
        return min(no, yes)
    return mean_of(hand, no, yes)
