import unittest

from evenbeats.errors import BadCount, BadRing
from evenbeats.rings import about, exchanged, laid, reckoned, turned
from tests.by_hand import (
    NO_NUMBERS, NO_RINGS, VERY_GREAT, RefusalCase, beats_around, is_even_by_hand, rings_up_to, row_by_hand,
    sign_by_hand,
)


class ReckonedTest(unittest.TestCase):
    def test_rows_known_beforehand(self):
        self.assertEqual(reckoned(3, 8, 0, 8), "x..x..x.")
        self.assertEqual(reckoned(3, 8, 1, 8), "x..x.x..")
        self.assertEqual(reckoned(3, 8, -1, 8), ".x.x..x.")
        self.assertEqual(reckoned(3, 8, 0, 3), "x..")
        self.assertEqual(reckoned(3, 8, 0, 11), "x..x..x.x..")
        self.assertEqual(reckoned(2, 4, 0, 6), "x.x.x.")
        self.assertEqual(reckoned(2, 4, 1, 6), "x.x.x.")
        self.assertEqual(reckoned(2, 4, 2, 6), ".x.x.x")

    def test_place_by_place(self):
        for places in range(1, 9):
            for beats in range(places + 1):
                for shift in range(-2 * places - 1, 2 * places + 2):
                    for many in (0, 1, places - 1, places, places + 1, 2 * places + 3):
                        told = reckoned(beats, places, shift, many)
                        self.assertEqual(told, row_by_hand(beats, places, shift, many))

    def test_no_places_are_an_empty_row(self):
        self.assertEqual(reckoned(0, 1, 0, 0), "")
        self.assertEqual(reckoned(1, 1, 0, 0), "")
        self.assertEqual(reckoned(3, 8, 5, 0), "")

    def test_no_beats_and_as_many_beats_as_places(self):
        for shift in (-VERY_GREAT, -1, 0, 1, 7, VERY_GREAT):
            self.assertEqual(reckoned(0, 1, shift, 4), "....")
            self.assertEqual(reckoned(0, 7, shift, 9), ".........")
            self.assertEqual(reckoned(1, 1, shift, 4), "xxxx")
            self.assertEqual(reckoned(7, 7, shift, 9), "xxxxxxxxx")

    def test_a_very_great_shift_counts_by_its_rest(self):
        for rest in range(8):
            self.assertEqual(reckoned(3, 8, 8 * VERY_GREAT + rest, 20), row_by_hand(3, 8, rest, 20))
            self.assertEqual(reckoned(3, 8, -8 * VERY_GREAT + rest, 20), row_by_hand(3, 8, rest, 20))

    def test_very_great_places(self):
        great = 10 ** 60
        self.assertEqual(reckoned(1, great, 0, 5), "x....")
        self.assertEqual(reckoned(1, great, -2, 5), "..x..")
        self.assertEqual(reckoned(great - 1, great, 0, 5), "x.xxx")
        self.assertEqual(reckoned(great // 2, great, 0, 5), "x.x.x")
        self.assertEqual(reckoned(great // 2, great, great // 2 - 1, 5), "x.x.x")
        self.assertEqual(reckoned(great // 2, great, great // 2, 5), ".x.x.")
        self.assertEqual(reckoned(great, great, -7, 3), "xxx")
        self.assertEqual(reckoned(0, VERY_GREAT, 5, 3), "...")
        # Numbers whose differences a float would lose.
        beats = great // 3
        for shift in (0, beats - 1, beats, great - 1, great, -1, -great):
            self.assertEqual(reckoned(beats, great, shift, 40), row_by_hand(beats, great, shift, 40))

    def test_many_places(self):
        told = reckoned(12345, 100003, 77, 250000)
        self.assertEqual(len(told), 250000)
        for place in (0, 1, 2, 99999, 100003, 200006, 249998, 249999):
            self.assertEqual(told[place], sign_by_hand(12345, 100003, 77, place))

    def test_arguments_by_name(self):
        self.assertEqual(reckoned(beats=2, places=5, shift=1, many=7), row_by_hand(2, 5, 1, 7))

    def test_told_the_same_again(self):
        self.assertEqual(reckoned(3, 7, 2, 9), reckoned(3, 7, 2, 9))
        self.assertIs(type(reckoned(3, 7, 2, 9)), str)


class ReckonedRefusalTest(RefusalCase):
    def test_no_whole_numbers(self):
        for wrong in NO_NUMBERS:
            self.refused(BadCount, reckoned, wrong, 4, 0, 4)
            self.refused(BadCount, reckoned, 1, wrong, 0, 4)
            self.refused(BadCount, reckoned, 1, 4, wrong, 4)
            self.refused(BadCount, reckoned, 1, 4, 0, wrong)
            self.refused(BadCount, reckoned, wrong, wrong, wrong, wrong)

    def test_no_whole_numbers_where_no_place_is_asked_for(self):
        for wrong in NO_NUMBERS:
            self.refused(BadCount, reckoned, wrong, 4, 0, 0)
            self.refused(BadCount, reckoned, 0, wrong, 0, 0)
            self.refused(BadCount, reckoned, 0, 4, wrong, 0)

    def test_numbers_out_of_bounds(self):
        self.refused(BadCount, reckoned, 0, 0, 0, 0)
        self.refused(BadCount, reckoned, 0, 0, 0, 3)
        self.refused(BadCount, reckoned, 0, -1, 0, 3)
        self.refused(BadCount, reckoned, -2, -1, 0, 3)
        self.refused(BadCount, reckoned, -1, -1, 0, 3)
        self.refused(BadCount, reckoned, -1, 4, 0, 3)
        self.refused(BadCount, reckoned, 5, 4, 0, 3)
        self.refused(BadCount, reckoned, 2, 1, 0, 0)
        self.refused(BadCount, reckoned, 2, 4, 0, -1)
        self.refused(BadCount, reckoned, 0, 1, 0, -1)

    def test_very_great_numbers_out_of_bounds(self):
        self.refused(BadCount, reckoned, VERY_GREAT, 4, 0, 3)
        self.refused(BadCount, reckoned, -VERY_GREAT, 4, 0, 3)
        self.refused(BadCount, reckoned, 2, -VERY_GREAT, 0, 3)
        self.refused(BadCount, reckoned, 2, 4, 0, -VERY_GREAT)
        self.refused(BadCount, reckoned, VERY_GREAT + 1, VERY_GREAT, 0, 3)

    def test_the_edges_of_the_bounds_are_taken(self):
        self.assertEqual(reckoned(0, 1, 0, 0), "")
        self.assertEqual(reckoned(0, 4, 0, 1), ".")
        self.assertEqual(reckoned(4, 4, 0, 1), "x")


class LaidTest(RefusalCase):
    def test_rings_known_beforehand(self):
        self.assertEqual(laid(3, 8), "x..x..x.")
        self.assertEqual(laid(5, 8), "x.x.xx.x")
        self.assertEqual(laid(2, 5), "x..x.")
        self.assertEqual(laid(4, 4), "xxxx")
        self.assertEqual(laid(0, 4), "....")
        self.assertEqual(laid(0, 1), ".")
        self.assertEqual(laid(1, 1), "x")

    def test_place_by_place(self):
        for places in range(1, 30):
            for beats in range(places + 1):
                self.assertEqual(laid(beats, places), row_by_hand(beats, places, 0, places))

    def test_it_has_so_many_beats_and_places(self):
        for places in range(1, 30):
            for beats in range(places + 1):
                self.assertEqual(laid(beats, places).count("x"), beats)
                self.assertEqual(len(laid(beats, places)), places)
        self.assertEqual(laid(31415, 100000).count("x"), 31415)

    def test_no_two_stretches_differ_by_two_beats(self):
        for places in range(1, 17):
            for beats in range(places + 1):
                ring = laid(beats, places)
                for many in range(places + 1):
                    counts = [beats_around(ring, place, many) for place in range(places)]
                    self.assertLessEqual(max(counts) - min(counts), 1)

    def test_arguments_by_name(self):
        self.assertEqual(laid(beats=2, places=5), "x..x.")

    def test_refusals(self):
        for wrong in NO_NUMBERS:
            self.refused(BadCount, laid, wrong, 4)
            self.refused(BadCount, laid, 1, wrong)
            self.refused(BadCount, laid, wrong, wrong)
        for beats, places in ((0, 0), (0, -1), (-1, -1), (-1, 4), (5, 4), (2, 1), (VERY_GREAT, 4), (1, -VERY_GREAT)):
            self.refused(BadCount, laid, beats, places)


class TurnedTest(RefusalCase):
    def test_rings_known_beforehand(self):
        self.assertEqual(turned("xx..", 1), "x..x")
        self.assertEqual(turned("xx..", -1), ".xx.")
        self.assertEqual(turned("xx..", 0), "xx..")
        self.assertEqual(turned("xx..", 4), "xx..")
        self.assertEqual(turned("xx..", 7), ".xx.")
        self.assertEqual(turned("xx..", -6), "..xx")

    def test_place_by_place(self):
        for ring in rings_up_to(6):
            for by in range(-2 * len(ring) - 1, 2 * len(ring) + 2):
                told = turned(ring, by)
                self.assertEqual(list(told), [ring[(place + by) % len(ring)] for place in range(len(ring))])

    def test_by_very_great_numbers(self):
        self.assertEqual(turned("xx.", 3 * VERY_GREAT + 1), "x.x")
        self.assertEqual(turned("xx.", -3 * VERY_GREAT + 2), ".xx")
        self.assertEqual(turned("x", VERY_GREAT), "x")
        self.assertEqual(turned(".", -VERY_GREAT), ".")

    def test_a_laid_ring_begun_at_a_place_is_reckoned_with_the_turn_times_the_beats(self):
        for places in range(1, 10):
            for beats in range(places + 1):
                for by in range(-3, places + 3):
                    self.assertEqual(turned(laid(beats, places), by), row_by_hand(beats, places, by * beats, places))

    def test_arguments_by_name(self):
        self.assertEqual(turned(ring="x..", by=1), "..x")

    def test_refusals(self):
        for wrong in NO_RINGS:
            self.refused(BadRing, turned, wrong, 1)
        for wrong in NO_NUMBERS:
            self.refused(BadCount, turned, "x.", wrong)
            self.refused(BadCount, turned, "x", wrong)

    def test_the_ring_is_refused_ahead_of_the_number(self):
        for no_ring in NO_RINGS:
            for no_number in NO_NUMBERS:
                self.refused(BadRing, turned, no_ring, no_number)


class ExchangedTest(RefusalCase):
    def test_rings_known_beforehand(self):
        self.assertEqual(exchanged("xx.x"), "..x.")
        self.assertEqual(exchanged("x"), ".")
        self.assertEqual(exchanged("."), "x")
        self.assertEqual(exchanged("...."), "xxxx")

    def test_place_by_place(self):
        for ring in rings_up_to(7):
            told = exchanged(ring)
            self.assertEqual(list(told), [{"x": ".", ".": "x"}[sign] for sign in ring])

    def test_arguments_by_name(self):
        self.assertEqual(exchanged(ring="x.."), ".xx")

    def test_refusals(self):
        for wrong in NO_RINGS:
            self.refused(BadRing, exchanged, wrong)


class AboutTest(RefusalCase):
    def test_rings_known_beforehand(self):
        self.assertEqual(about("xx.x."), ".x.xx")
        self.assertEqual(about("x"), "x")
        self.assertEqual(about("."), ".")

    def test_place_by_place(self):
        for ring in rings_up_to(7):
            told = about(ring)
            self.assertEqual(list(told), [ring[len(ring) - 1 - place] for place in range(len(ring))])

    def test_arguments_by_name(self):
        self.assertEqual(about(ring="x.."), "..x")

    def test_refusals(self):
        for wrong in NO_RINGS:
            self.refused(BadRing, about, wrong)


class StayingEvenTest(unittest.TestCase):
    def test_even_rings_stay_even_and_others_stay_others(self):
        for ring in rings_up_to(8):
            even = is_even_by_hand(ring)
            self.assertEqual(is_even_by_hand(about(ring)), even)
            self.assertEqual(is_even_by_hand(exchanged(ring)), even)
            for by in (-3, -1, 1, 2, 5, len(ring) + 1):
                self.assertEqual(is_even_by_hand(turned(ring, by)), even)

    def test_laid_rings_stay_even(self):
        for places in range(1, 13):
            for beats in range(places + 1):
                ring = laid(beats, places)
                for told in (turned(ring, -5), turned(ring, 4), about(ring), exchanged(ring)):
                    self.assertTrue(is_even_by_hand(told))


if __name__ == "__main__":
    unittest.main()
