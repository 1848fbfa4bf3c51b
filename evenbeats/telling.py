"""Whether a ring is even: by which turn it is laid, or which two stretches of it are apart."""

from evenbeats.answers import Apart, Even
from evenbeats.checks import BEAT, check_ring


def beats_before(row):
    sums = [0]
    for sign in row:
        sums.append(sums[-1] + 1 if sign == BEAT else sums[-1])
    return sums


def beats_of_stretches(sums, many):
    return [sums[place + many] - sums[place] for place in range(len(sums) - many)]


def leads(sums, beats, places):
    # How far the beats before a place are ahead of their even share, times the places, so that it is whole.
    return [places * sums[place] - beats * place for place in range(len(sums))]


def even(ring):
    check_ring(ring)
    places = len(ring)
    ahead = leads(beats_before(ring), ring.count(BEAT), places)
    top = ahead.index(max(ahead))
    bottom = ahead.index(min(ahead))
    # No stretch is off its share by more than these two are from one another; where that is less than a beat,
    # stretches of as many places have the share, rounded down or up.
    if ahead[top] - ahead[bottom] < places:
        # A laid ring is furthest ahead just behind its first place.
        return Even((1 - top) % places)
    # From the bottom to the top there is a beat or more above the share. The share is the mean over the ring, so
    # another stretch is below it, and the least one has two beats less.
    many = (top - bottom) % places
    counts = beats_of_stretches(beats_before(ring + ring), many)
    return Apart(bottom, counts.index(min(counts)), many)
