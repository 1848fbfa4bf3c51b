"""What counts as a number, a row and a ring, and the refusal of what doesn't.

No refusal shows what was handed in: a very great number can't be turned into a text,
and an object of any kind may fail when it is asked for one.
"""

from evenbeats.errors import BadCount, BadRing

BEAT = "x"
REST = "."


def is_number(value):
    # Python counts True and False among its whole numbers, the document doesn't.
    return isinstance(value, int) and not isinstance(value, bool)


def is_between(value, least, most):
    return is_number(value) and least <= value <= most


def is_row(value):
    return isinstance(value, str) and value.count(BEAT) + value.count(REST) == len(value)


def is_ring(value):
    return is_row(value) and len(value) >= 1


def check_row(value):
    if not is_row(value):
        raise BadRing("a row is a text of x and ., and of nothing else")


def check_ring(value):
    if not is_ring(value):
        raise BadRing("a ring is a text of one x or . at least, and of nothing else")


def check_number(value):
    if not is_number(value):
        raise BadCount("a whole number is asked for")


def check_at_least(value, least):
    check_number(value)
    if value < least:
        raise BadCount(f"the least number that is taken here is {least}")


def check_beats(beats, places):
    check_at_least(places, 1)
    if not is_between(beats, 0, places):
        raise BadCount("the beats are a whole number from 0 to the places")
