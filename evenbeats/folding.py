"""The gaps of a ring, and rings folded by them and unfolded again."""

from evenbeats.checks import BEAT, REST, check_at_least, check_ring
from evenbeats.errors import NoBeat, Uneven


def gaps(ring):
    check_ring(ring)
    beats = [place for place in range(len(ring)) if ring[place] == BEAT]
    if len(beats) == 0:
        raise NoBeat("a ring without a beat has no gaps")
    # Behind the last beat comes the first one again, once around the ring.
    following = beats[1:] + [beats[0] + len(ring)]
    return [later - place for place, later in zip(beats, following)]


def folded(ring):
    between = gaps(ring)
    least = min(between)
    if max(between) > least + 1:
        raise Uneven("a gap is longer than the least one by more than one")
    return "".join([BEAT if gap > least else REST for gap in between])


def unfolded(ring, gap):
    check_ring(ring)
    check_at_least(gap, 1)
    short = BEAT + REST * (gap - 1)
    return "".join([short + REST if sign == BEAT else short for sign in ring])


def folds(ring):
    check_ring(ring)
    told = [ring]
    # This ends: a folded ring has a place for each beat, so it is shorter, or all its gaps were 1 and it has no beat.
    while BEAT in told[-1]:
        told.append(folded(told[-1]))
    return told
