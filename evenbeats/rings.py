"""Rows reckoned by numbers, and rings laid, turned, exchanged and told backwards."""

from evenbeats.checks import BEAT, REST, check_at_least, check_beats, check_number, check_ring


def reckoned(beats, places, shift, many):
    check_beats(beats, places)
    check_number(shift)
    check_at_least(many, 0)
    # The shift may be very great: only its rest matters, and that is taken once, not at each place.
    start = shift % places
    return "".join([BEAT if (start + place * beats) % places < beats else REST for place in range(many)])


def laid(beats, places):
    return reckoned(beats, places, 0, places)


def turned(ring, by):
    check_ring(ring)
    check_number(by)
    begin = by % len(ring)
    return ring[begin:] + ring[:begin]


def exchanged(ring):
    check_ring(ring)
    return "".join([REST if sign == BEAT else BEAT for sign in ring])


def about(ring):
    check_ring(ring)
    return ring[::-1]
