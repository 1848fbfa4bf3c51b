import unittest

from evenbeats.answers import Apart, Even
from evenbeats.errors import BadRing
from evenbeats.rings import about, exchanged, laid, turned
from evenbeats.telling import even
from tests.by_hand import (
    NO_RINGS, RefusalCase, apart_by_hand, is_even_by_hand, is_even_by_slices, rings_up_to, row_by_hand, with_sign,
    with_signs_exchanged,
)


class ToldCase(RefusalCase):
    def told_even(self, ring):
        answer = even(ring)
        self.assertIs(type(answer), Even, ring)
        self.assertIs(type(answer.turn), int)
        places, beats = len(ring), ring.count("x")
        self.assertIn(answer.turn, range(places), ring)
        self.assertEqual(row_by_hand(beats, places, answer.turn * beats, places), ring)
        self.assertIs(answer.shows(ring), True)

    def told_apart(self, ring):
        answer = even(ring)
        self.assertIs(type(answer), Apart, ring)
        self.assertEqual([type(field) for field in vars(answer).values()], [int] * 3)
        self.assertTrue(apart_by_hand(ring, answer.first, answer.second, answer.many), (ring, vars(answer)))
        self.assertIs(answer.shows(ring), True)

    def told_rightly(self, ring, is_even):
        if is_even:
            self.told_even(ring)
        else:
            self.told_apart(ring)


class EvenTellingTest(ToldCase):
    def test_rings_known_beforehand(self):
        for ring in ("x..x..x.", "x..x.x..", "x.x.xx.x", "x.x.", ".x.x", "xx.x.", "x.xx.x.x"):
            self.told_even(ring)
        for ring in ("xx..", ".xx.", "x..x", "xxx...", "xx.x..", "x...x.x.", "xx.xx...", "xxx.x.xx.x.x"):
            self.told_apart(ring)

    def test_every_ring_of_up_to_eleven_places(self):
        for ring in rings_up_to(11):
            self.told_rightly(ring, is_even_by_hand(ring))

    def test_one_place(self):
        for ring in ("x", "."):
            self.told_even(ring)
            self.assertEqual(even(ring).turn, 0)

    def test_no_beats_beats_alone_one_beat_one_rest(self):
        for places in (1, 2, 3, 4, 7, 30, 300):
            for ring in ("." * places, "x" * places):
                self.told_even(ring)
            for by in (0, 1, places // 2, places - 1):
                self.told_even(turned("x" + "." * (places - 1), by))
                self.told_even(turned("." + "x" * (places - 1), by))

    def test_rings_laid_and_turned(self):
        for places in range(1, 21):
            for beats in range(places + 1):
                for by in range(places):
                    self.told_even(turned(laid(beats, places), by))

    def test_two_signs_exchanged(self):
        for places in range(2, 12):
            for beats in range(places + 1):
                ring = turned(laid(beats, places), beats)
                for one in range(places):
                    for other in range(one):
                        changed = with_signs_exchanged(ring, one, other)
                        self.told_rightly(changed, is_even_by_slices(changed))

    def test_one_beat_more(self):
        for places in range(2, 15):
            for beats in range(places):
                ring = laid(beats, places)
                for place in range(places):
                    changed = with_sign(ring, place, "x")
                    self.told_rightly(changed, is_even_by_slices(changed))

    def test_a_ring_told_more_than_once_around(self):
        for ring in rings_up_to(6):
            self.told_rightly(ring * 3, is_even_by_hand(ring))

    def test_arguments_by_name(self):
        self.assertIs(even(ring="x.").shows("x."), True)


class ManyPlacesTest(ToldCase):
    def test_rings_of_some_hundred_places(self):
        for beats, places in ((1, 200), (89, 233), (144, 233), (100, 300), (150, 300), (299, 300), (7, 500)):
            for by in (0, 1, 97, places - 1):
                ring = turned(laid(beats, places), by)
                self.told_even(ring)
                self.told_even(about(ring))
                self.told_even(exchanged(ring))

    def test_neighbours_exchanged_in_rings_of_some_hundred_places(self):
        for beats, places in ((89, 233), (100, 250), (3, 200)):
            ring = laid(beats, places)
            seen = []
            for place in range(0, places, 11):
                changed = with_signs_exchanged(ring, place, (place + 1) % places)
                seen.append(is_even_by_slices(changed))
                self.told_rightly(changed, seen[-1])
            self.assertIn(False, seen)

    def test_one_beat_more_in_rings_of_some_hundred_places(self):
        for beats, places in ((89, 233), (100, 250), (3, 200)):
            ring = laid(beats, places)
            for place in range(0, places, 17):
                changed = with_sign(ring, place, "x")
                self.told_rightly(changed, is_even_by_slices(changed))

    def test_two_even_halves_that_are_apart(self):
        for one, other in ((60, 62), (40, 90), (0, 2), (148, 150)):
            self.told_apart(laid(one, 150) + laid(other, 150))
        self.told_apart("x" * 200 + "." * 200)

    def test_apart_by_long_stretches_alone(self):
        # A beat more in the one half than in the other shows only over about half of the ring.
        ring = "x." * 100 + "x.." + "x." * 100 + "x.."
        self.told_even(ring)
        ring = "x." * 101 + "x.." + "x." * 99 + "x.."
        self.assertFalse(is_even_by_slices(ring))
        self.told_apart(ring)
        self.assertGreater(min(even(ring).many, len(ring) - even(ring).many), 190)

    def test_a_great_many_places(self):
        ring = turned(laid(12345, 100003), 54321)
        self.told_even(ring)
        place = ring.index("x..")
        self.told_apart(with_signs_exchanged(ring, place, place + 2))


class StayingTest(ToldCase):
    def test_even_rings_stay_even_and_others_stay_others(self):
        for ring in rings_up_to(9):
            is_even = type(even(ring)) is Even
            for by in (-7, -1, 1, 2, 5, len(ring), 10 ** 30):
                self.told_rightly(turned(ring, by), is_even)
            self.told_rightly(about(ring), is_even)
            self.told_rightly(exchanged(ring), is_even)
            self.told_rightly(exchanged(about(turned(ring, 3))), is_even)

    def test_rings_of_some_hundred_places(self):
        ring = laid(123, 400)
        for kept, is_even in ((ring, True), (with_signs_exchanged(ring, 0, 2), False)):
            for told in (turned(kept, 211), turned(kept, -3), about(kept), exchanged(kept)):
                self.assertEqual(is_even_by_slices(told), is_even)
                self.told_rightly(told, is_even)


class TellingRefusalTest(ToldCase):
    def test_what_is_no_ring_is_refused(self):
        for wrong in NO_RINGS:
            self.refused(BadRing, even, wrong)

    def test_a_wrong_sign_anywhere_is_refused(self):
        ring = laid(123, 400)
        for place in (0, 1, 199, 398, 399):
            for sign in ("o", " ", "X", ",", "\n"):
                self.refused(BadRing, even, with_sign(ring, place, sign))


class NewAnswerTest(unittest.TestCase):
    def test_each_answer_is_a_new_one(self):
        for ring in ("x.x.", "xx.."):
            first = even(ring)
            before = dict(vars(first))
            for name in before:
                setattr(first, name, -1)
            again = even(ring)
            self.assertIsNot(again, first)
            self.assertEqual(vars(again), before)


if __name__ == "__main__":
    unittest.main()
