"""Counting by hand, against which the program is held, and what it must refuse."""

import unittest
from decimal import Decimal
from fractions import Fraction
from itertools import product


class RefusalCase(unittest.TestCase):
    def refused(self, error, call, *given):
        try:
            call(*given)
        except error as raised:
            self.assertIs(type(raised), error)
        else:
            self.fail(f"{call.__name__}: nothing was refused")


class Stubborn:
    """An object that fails at whatever it is asked."""

    def fail(self, *more):
        raise RuntimeError("asked")

    __eq__ = __lt__ = __le__ = __gt__ = __ge__ = fail
    __add__ = __radd__ = __mul__ = __rmul__ = __mod__ = __rmod__ = fail
    __index__ = __int__ = __bool__ = __len__ = __iter__ = __getitem__ = __contains__ = fail
    __hash__ = __repr__ = __str__ = __format__ = fail


NO_NUMBERS = (
    None, True, False, "", "1", 1.0, 2.5, float("nan"), float("inf"), 1j, Fraction(1), Decimal(1),
    b"1", [], [1], (1,), {1: 1}, {1}, range(1), int, len, object(), Stubborn(),
)

# The last three are no plain x or point, however like one they look.
NO_ROWS = (
    None, True, False, 0, 1, 1.0, b"", b"x.", bytearray(b"x."), [], ["x", "."], ("x", "."), {"x": "."}, {"x"},
    str, len, object(), Stubborn(),
    " ", "X", "o", "0", "x o", "x. ", " x.", "x.\n", "\nx.", "x.x.-", "x\0", "X.X", "1010",
    "\u0445.", "x\uff0e", "x\u00b7",
)

NO_RINGS = NO_ROWS + ("",)

VERY_GREAT = 10 ** 5000


def rows_of(places):
    return ["".join(signs) for signs in product("x.", repeat=places)]


def rows_up_to(places):
    return [row for many in range(places + 1) for row in rows_of(many)]


def rings_up_to(places):
    return [row for row in rows_up_to(places) if row != ""]


def rest_by(number, places):
    return number - places * (number // places)


def sign_by_hand(beats, places, shift, place):
    return "x" if rest_by(shift + place * beats, places) < beats else "."


def row_by_hand(beats, places, shift, many):
    row = ""
    for place in range(many):
        row += sign_by_hand(beats, places, shift, place)
    return row


def beats_around(ring, place, many):
    """The beats of so many places from a place on, around the ring, counted one by one."""
    beats = 0
    for step in range(many):
        if ring[(place + step) % len(ring)] == "x":
            beats += 1
    return beats


def is_even_by_hand(ring):
    for many in range(len(ring) + 1):
        counts = [beats_around(ring, place, many) for place in range(len(ring))]
        if max(counts) - min(counts) > 1:
            return False
    return True


def apart_by_hand(ring, first, second, many):
    places = range(len(ring))
    if first not in places or second not in places or many not in range(len(ring) + 1):
        return False
    return beats_around(ring, first, many) - beats_around(ring, second, many) >= 2


def stretch_by_hand(row, place, many):
    """The signs of so many places from a place on, or None where they are not all in the row."""
    if place < 0 or many < 0 or place + many > len(row):
        return None
    return [row[place + step] for step in range(many)]


def parted_by_hand(row, first, second, many):
    one = stretch_by_hand(row, first, many)
    other = stretch_by_hand(row, second, many)
    if one is None or other is None:
        return False
    return one.count("x") - other.count("x") >= 2


def counts_around(ring, many):
    return [(ring + ring)[place:place + many].count("x") for place in range(len(ring))]


def is_even_by_slices(ring):
    """As is_even_by_hand, for rings of some hundred places."""
    return not any(max(counts) - min(counts) > 1 for counts in (counts_around(ring, many) for many in range(len(ring))))


def is_unparted_by_hand(row):
    for many in range(1, len(row) + 1):
        counts = [row[place:place + many].count("x") for place in range(len(row) - many + 1)]
        if max(counts) - min(counts) > 1:
            return False
    return True


def gaps_by_hand(ring):
    """From each beat on step by step till the next one, around the ring."""
    told = []
    for place in range(len(ring)):
        if ring[place] == "x":
            step = 1
            while ring[(place + step) % len(ring)] != "x":
                step += 1
            told.append(step)
    return told


def with_sign(row, place, sign):
    return row[:place] + sign + row[place + 1:]


def with_other_sign(row, place):
    return with_sign(row, place, "." if row[place] == "x" else "x")


def with_signs_exchanged(row, one, other):
    return with_sign(with_sign(row, one, row[other]), other, row[one])
