"""Whether a row is the beginning of an evenly reckoned one, or which two stretches of it are parted."""

from evenbeats.answers import Begun, Parted
from evenbeats.checks import check_row
from evenbeats.telling import beats_before, beats_of_stretches, leads


# A share is a tuple, beats and places: so many beats to so many places, the places above 0.
def is_less(share, other):
    return share[0] * other[1] < other[0] * share[1]


def greater(share, other):
    return other if is_less(share, other) else share


def lesser(share, other):
    return other if is_less(other, share) else share


def begun_by_share_between(sums, low, high):
    # Beats and places added up give a share between the two.
    beats = low[0] + high[0]
    places = low[1] + high[1]
    # The greatest lead and the share of the places so far, rounded down together, are the beats before a place. That
    # grows just behind a beat, while a row is reckoned at the beat itself: so the beats are added once.
    shift = max(leads(sums, beats, places)) + beats
    return Begun(beats, places, shift)


def begun(row):
    check_row(row)
    sums = beats_before(row)
    # A stretch of a reckoned row is off its share by less than one beat, so each stretch bounds the share on both
    # sides. These two bound nothing yet: every row's share is from 0 to 1.
    low = (-1, 1)
    high = (2, 1)
    for many in range(1, len(row) + 1):
        counts = beats_of_stretches(sums, many)
        most = max(counts)
        least = min(counts)
        if most >= least + 2:
            return Parted(counts.index(most), counts.index(least), many)
        low = greater(low, (most - 1, many))
        high = lesser(high, (least + 1, many))
    # Where no two stretches are parted, the low bound is less than the high one.
    return begun_by_share_between(sums, low, high)
