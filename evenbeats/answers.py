"""What can be told of a ring or a row, each answer able to say whether it holds."""

from evenbeats.checks import BEAT, is_between, is_ring, is_row
from evenbeats.errors import BadCount
from evenbeats.rings import reckoned


def has_two_more(row, first, second, many):
    more = row[first:first + many].count(BEAT)
    fewer = row[second:second + many].count(BEAT)
    return more >= fewer + 2


class Answer:
    pass


class Even(Answer):
    def __init__(self, turn):
        self.turn = turn

    def shows(self, ring):
        if not is_ring(ring) or not is_between(self.turn, 0, len(ring) - 1):
            return False
        beats = ring.count(BEAT)
        return ring == reckoned(beats, len(ring), self.turn * beats, len(ring))


class Apart(Answer):
    def __init__(self, first, second, many):
        self.first = first
        self.second = second
        self.many = many

    def shows(self, ring):
        if not is_ring(ring) or not is_between(self.many, 0, len(ring)):
            return False
        last = len(ring) - 1
        if not is_between(self.first, 0, last) or not is_between(self.second, 0, last):
            return False
        # Told twice, so that a stretch around the ring's end lies in one piece.
        return has_two_more(ring + ring, self.first, self.second, self.many)


class Begun(Answer):
    def __init__(self, beats, places, shift):
        self.beats = beats
        self.places = places
        self.shift = shift

    def shows(self, row):
        if not is_row(row):
            return False
        # What can't be reckoned by is refused there by the bounds that hold here.
        try:
            told = reckoned(self.beats, self.places, self.shift, len(row))
        except BadCount:
            return False
        return row == told


class Parted(Answer):
    def __init__(self, first, second, many):
        self.first = first
        self.second = second
        self.many = many

    def shows(self, row):
        if not is_row(row) or not is_between(self.many, 0, len(row)):
            return False
        last = len(row) - self.many
        if not is_between(self.first, 0, last) or not is_between(self.second, 0, last):
            return False
        return has_two_more(row, self.first, self.second, self.many)
