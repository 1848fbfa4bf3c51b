import unittest

from evenbeats.answers import Answer, Apart, Begun, Even, Parted
from evenbeats.rings import about, exchanged, laid, reckoned, turned
from tests.by_hand import (
    NO_NUMBERS, NO_RINGS, NO_ROWS, VERY_GREAT, apart_by_hand, is_even_by_hand, parted_by_hand, rings_up_to,
    row_by_hand, rows_up_to,
)

SIZES = (-VERY_GREAT, VERY_GREAT)


class AnswerTest(unittest.TestCase):
    def test_each_stands_straight_under_answer(self):
        self.assertEqual(Answer.__bases__, (object,))
        for kind in (Even, Apart, Begun, Parted):
            self.assertEqual(kind.__bases__, (Answer,))

    def test_the_fields_are_as_they_were_handed_in(self):
        for one, other, third in ((0, 0, 0), (1, 2, 3), (-7, -1, -4), (VERY_GREAT, -VERY_GREAT, VERY_GREAT + 1)):
            self.assertEqual(vars(Even(one)), {"turn": one})
            self.assertEqual(vars(Apart(one, other, third)), {"first": one, "second": other, "many": third})
            self.assertEqual(vars(Begun(one, other, third)), {"beats": one, "places": other, "shift": third})
            self.assertEqual(vars(Parted(one, other, third)), {"first": one, "second": other, "many": third})

    def test_arguments_by_name(self):
        self.assertEqual(vars(Even(turn=4)), {"turn": 4})
        self.assertEqual(vars(Apart(first=4, second=5, many=6)), {"first": 4, "second": 5, "many": 6})
        self.assertEqual(vars(Begun(beats=4, places=5, shift=6)), {"beats": 4, "places": 5, "shift": 6})
        self.assertEqual(vars(Parted(first=4, second=5, many=6)), {"first": 4, "second": 5, "many": 6})
        self.assertIs(Even(0).shows(ring="x."), True)
        self.assertIs(Apart(0, 2, 2).shows(ring="xx.."), True)
        self.assertIs(Begun(1, 2, 0).shows(row="x."), True)
        self.assertIs(Parted(0, 2, 2).shows(row="xx.."), True)

    def test_asking_keeps_and_changes_nothing(self):
        asked = (Even(9), Apart(0, 2, 2), Begun(1, 2, 77), Parted(-1, 2, 2))
        before = [dict(vars(answer)) for answer in asked]
        told = [answer.shows("xx..") for answer in asked]
        self.assertEqual([vars(answer) for answer in asked], before)
        self.assertEqual([answer.shows("xx..") for answer in asked], told)


class EvenTest(unittest.TestCase):
    def test_rings_known_beforehand(self):
        self.assertIs(Even(0).shows("x..x..x."), True)
        self.assertIs(Even(3).shows("x..x.x.."), True)
        self.assertIs(Even(1).shows("x..x..x."), False)
        self.assertIs(Even(0).shows("xx.."), False)

    def test_every_turn_of_every_ring(self):
        for ring in rings_up_to(7):
            places, beats = len(ring), ring.count("x")
            for turn in range(-2 * places - 1, 2 * places + 2):
                right = turn in range(places) and ring == row_by_hand(beats, places, turn * beats, places)
                self.assertIs(Even(turn).shows(ring), right, (turn, ring))

    def test_no_beats_and_beats_alone_have_every_turn_below_their_places(self):
        for ring in (".", "x", "...", "xxx"):
            for turn in range(len(ring)):
                self.assertIs(Even(turn).shows(ring), True)
            self.assertIs(Even(-1).shows(ring), False)
            self.assertIs(Even(len(ring)).shows(ring), False)

    def test_turns_that_would_do_but_for_the_bounds(self):
        ring = turned(laid(3, 8), 5)
        self.assertIs(Even(5).shows(ring), True)
        for beyond in (5 - 8, 5 + 8, 5 + 8 * VERY_GREAT, 5 - 8 * VERY_GREAT):
            self.assertIs(Even(beyond).shows(ring), False)

    def test_the_laid_ring_begun_at_place_turn(self):
        for places in range(1, 14):
            for beats in range(places + 1):
                for turn in range(places):
                    self.assertIs(Even(turn).shows(turned(laid(beats, places), turn)), True)

    def test_many_places(self):
        ring = turned(laid(12345, 100003), 54321)
        self.assertIs(Even(54321).shows(ring), True)
        self.assertIs(Even(54322).shows(ring), False)

    def test_the_field_as_it_stands(self):
        answer = Even(0)
        self.assertIs(answer.shows("x."), True)
        answer.turn = 1
        self.assertIs(answer.shows("x."), False)
        self.assertIs(answer.shows(".x"), True)
        answer.turn = 2
        self.assertIs(answer.shows("x."), False)
        answer.turn = 0
        self.assertIs(answer.shows("x."), True)


class ApartTest(unittest.TestCase):
    def test_rings_known_beforehand(self):
        self.assertIs(Apart(0, 2, 2).shows("xx.."), True)
        self.assertIs(Apart(2, 0, 2).shows("xx.."), False)
        self.assertIs(Apart(0, 1, 2).shows("xx.."), False)
        self.assertIs(Apart(0, 2, 1).shows("xx.."), False)
        self.assertIs(Apart(0, 3, 3).shows("xxx..."), True)
        self.assertIs(Apart(0, 0, 2).shows("xx.."), False)

    def test_stretches_around_the_ring(self):
        self.assertIs(Apart(3, 1, 2).shows("x..x"), True)
        self.assertIs(Apart(1, 3, 2).shows(".xx."), True)
        self.assertIs(Apart(4, 1, 3).shows("xx..x"), True)
        self.assertIs(Apart(3, 1, 2).shows("...x"), False)

    def test_all_fields_of_every_ring(self):
        for ring in rings_up_to(5):
            edges = range(-2, len(ring) + 3)
            for first in edges:
                for second in edges:
                    for many in edges:
                        right = apart_by_hand(ring, first, second, many)
                        self.assertIs(Apart(first, second, many).shows(ring), right, (first, second, many, ring))

    def test_longer_rings(self):
        for ring in ("xx..xx..", "xxx...x.x", "x.x.x....", "xxxx....", "..x.xx.xx"):
            for first in range(len(ring)):
                for second in range(len(ring)):
                    for many in range(-1, len(ring) + 2):
                        right = apart_by_hand(ring, first, second, many)
                        self.assertIs(Apart(first, second, many).shows(ring), right)

    def test_places_that_would_do_but_for_the_bounds(self):
        self.assertIs(Apart(0, 2, 2).shows("xx.."), True)
        for first, second, many in ((4, 2, 2), (-4, 2, 2), (0, 6, 2), (0, -2, 2), (0, 2, 6), (0, 2, -2)):
            self.assertIs(Apart(first, second, many).shows("xx.."), False)

    def test_a_stretch_of_all_places_or_of_none_shows_nothing(self):
        for first in range(4):
            for second in range(4):
                self.assertIs(Apart(first, second, 0).shows("xx.."), False)
                self.assertIs(Apart(first, second, 4).shows("xx.."), False)

    def test_fields_of_any_size(self):
        for size in SIZES:
            self.assertIs(Apart(4 * size, 2, 2).shows("xx.."), False)
            self.assertIs(Apart(0, 4 * size + 2, 2).shows("xx.."), False)
            self.assertIs(Apart(0, 2, 4 * size + 2).shows("xx.."), False)

    def test_the_fields_as_they_stand(self):
        answer = Apart(0, 2, 2)
        self.assertIs(answer.shows("xx.."), True)
        for name, wrong, right in (("first", 1, 0), ("second", 3, 2), ("many", 1, 2)):
            setattr(answer, name, wrong)
            self.assertIs(answer.shows("xx.."), False)
            setattr(answer, name, right)
            self.assertIs(answer.shows("xx.."), True)


class BegunTest(unittest.TestCase):
    def test_rows_known_beforehand(self):
        self.assertIs(Begun(3, 8, 0).shows("x..x..x."), True)
        self.assertIs(Begun(3, 8, 0).shows("x..x..x.x..x"), True)
        self.assertIs(Begun(3, 8, 0).shows("x..x"), True)
        self.assertIs(Begun(3, 8, 0).shows("x.x"), False)
        self.assertIs(Begun(3, 8, 2).shows("x.x"), True)
        self.assertIs(Begun(3, 8, 3).shows("..x"), True)

    def test_all_fields_of_every_row(self):
        for row in rows_up_to(5):
            for places in range(-2, 6):
                for beats in range(-2, 8):
                    for shift in range(-3, 8):
                        right = places > 0 and 0 <= beats <= places
                        right = right and row == row_by_hand(beats, places, shift, len(row))
                        self.assertIs(Begun(beats, places, shift).shows(row), right, (beats, places, shift, row))

    def test_the_row_of_no_places(self):
        for beats, places in ((0, 1), (1, 1), (3, 8), (0, VERY_GREAT), (VERY_GREAT, VERY_GREAT)):
            self.assertIs(Begun(beats, places, -5).shows(""), True)
        for beats, places in ((0, 0), (-1, 1), (2, 1), (0, -1), (-1, -1), (VERY_GREAT, 1), (0, -VERY_GREAT)):
            self.assertIs(Begun(beats, places, -5).shows(""), False)

    def test_fields_of_any_size(self):
        for size in SIZES:
            self.assertIs(Begun(3, 8, 8 * size).shows("x..x..x."), True)
            self.assertIs(Begun(3, 8, 8 * size + 3).shows("x..x..x."), False)
            self.assertIs(Begun(size, 8, 0).shows("xxx"), False)
        self.assertIs(Begun(3, -VERY_GREAT, 0).shows("x.."), False)
        self.assertIs(Begun(1, VERY_GREAT, 0).shows("x.."), True)
        self.assertIs(Begun(1, VERY_GREAT, -1).shows(".x."), True)
        self.assertIs(Begun(1, VERY_GREAT, -1).shows("x.."), False)
        self.assertIs(Begun(VERY_GREAT - 1, VERY_GREAT, 0).shows("x.xx"), True)
        self.assertIs(Begun(VERY_GREAT + 1, VERY_GREAT, 0).shows("xxx"), False)
        self.assertIs(Begun(VERY_GREAT, VERY_GREAT, 0).shows("xxx"), True)

    def test_many_places(self):
        row = reckoned(12345, 100003, 77, 150000)
        self.assertIs(Begun(12345, 100003, 77).shows(row), True)
        self.assertIs(Begun(12345, 100003, 78).shows(row), False)

    def test_the_fields_as_they_stand(self):
        answer = Begun(3, 8, 0)
        self.assertIs(answer.shows("x..x..x."), True)
        for name, wrong, right in (("beats", 2, 3), ("places", 7, 8), ("shift", 1, 0)):
            setattr(answer, name, wrong)
            self.assertIs(answer.shows("x..x..x."), False)
            setattr(answer, name, right)
            self.assertIs(answer.shows("x..x..x."), True)


class PartedTest(unittest.TestCase):
    def test_rows_known_beforehand(self):
        self.assertIs(Parted(0, 2, 2).shows("xx.."), True)
        self.assertIs(Parted(2, 0, 2).shows("xx.."), False)
        self.assertIs(Parted(2, 0, 2).shows("..xx"), True)
        self.assertIs(Parted(0, 1, 2).shows("xx.."), False)
        self.assertIs(Parted(0, 3, 3).shows("xxx..."), True)
        self.assertIs(Parted(0, 0, 2).shows("xx.."), False)

    def test_a_row_does_not_go_around(self):
        self.assertIs(Parted(3, 1, 2).shows("x..x"), False)
        self.assertIs(Parted(1, 3, 2).shows(".xx."), False)
        self.assertIs(Parted(0, 3, 2).shows("xx.."), False)
        self.assertIs(Parted(0, 4, 2).shows("xx.."), False)
        self.assertIs(Parted(0, -2, 2).shows("xx.."), False)
        self.assertIs(Parted(-4, 2, 2).shows("xx.."), False)

    def test_all_fields_of_every_row(self):
        for row in rows_up_to(5):
            edges = range(-2, len(row) + 3)
            for first in edges:
                for second in edges:
                    for many in edges:
                        right = parted_by_hand(row, first, second, many)
                        self.assertIs(Parted(first, second, many).shows(row), right, (first, second, many, row))

    def test_longer_rows(self):
        for row in ("xx..xx..", "xxx...x.x", "x.x.x....", "xxxx....", "..x.xx.xx"):
            for first in range(-1, len(row) + 1):
                for second in range(-1, len(row) + 1):
                    for many in range(-1, len(row) + 2):
                        right = parted_by_hand(row, first, second, many)
                        self.assertIs(Parted(first, second, many).shows(row), right)

    def test_no_places(self):
        self.assertIs(Parted(0, 0, 0).shows(""), False)
        self.assertIs(Parted(0, 0, 1).shows(""), False)
        self.assertIs(Parted(4, 4, 0).shows("xx.."), False)
        self.assertIs(Parted(0, 2, 0).shows("xx.."), False)

    def test_fields_of_any_size(self):
        for size in SIZES:
            self.assertIs(Parted(4 * size, 2, 2).shows("xx.."), False)
            self.assertIs(Parted(0, 4 * size + 2, 2).shows("xx.."), False)
            self.assertIs(Parted(0, 2, 4 * size + 2).shows("xx.."), False)
            self.assertIs(Parted(size, size, -size).shows("xx.."), False)

    def test_the_fields_as_they_stand(self):
        answer = Parted(0, 2, 2)
        self.assertIs(answer.shows("xx.."), True)
        for name, wrong, right in (("first", 1, 0), ("second", 1, 2), ("many", 1, 2)):
            setattr(answer, name, wrong)
            self.assertIs(answer.shows("xx.."), False)
            setattr(answer, name, right)
            self.assertIs(answer.shows("xx.."), True)


class OneOfTwoTest(unittest.TestCase):
    def test_of_a_ring_one_of_two_things_can_be_told_never_both(self):
        for ring in rings_up_to(8):
            places = range(len(ring))
            even = any([Even(turn).shows(ring) for turn in places])
            apart = any([
                Apart(first, second, many).shows(ring)
                for first in places for second in places for many in range(len(ring) + 1)
            ])
            self.assertEqual(even, is_even_by_hand(ring), ring)
            self.assertEqual(apart, not even, ring)

    def test_of_a_row_one_of_two_things_can_be_told_never_both(self):
        for row in rows_up_to(6):
            places = range(len(row) + 1)
            begun = any([
                Begun(beats, many, shift).shows(row)
                for many in range(1, len(row) + 2) for beats in range(many + 1) for shift in range(many)
            ])
            parted = any([
                Parted(first, second, many).shows(row)
                for first in places for second in places for many in places
            ])
            self.assertEqual(parted, not begun, row)

    def test_even_rings_can_be_told_even_turned_about_and_exchanged(self):
        for places in range(1, 10):
            for beats in range(places + 1):
                ring = laid(beats, places)
                for told in (turned(ring, 3), turned(ring, -1), about(ring), exchanged(ring)):
                    self.assertTrue(any([Even(turn).shows(told) for turn in range(places)]))


class WrongKindsTest(unittest.TestCase):
    # No refusal is told of these, so the program need only not take them for what they aren't.
    def test_what_is_no_number_shows_nothing(self):
        for wrong in NO_NUMBERS:
            self.assertIs(Even(wrong).shows("xxx"), False)
            for answer in (Apart(wrong, 2, 2), Apart(0, wrong, 2), Apart(0, 2, wrong)):
                self.assertIs(answer.shows("xx.."), False)
            for answer in (Begun(wrong, 1, 0), Begun(0, wrong, 0), Begun(0, 1, wrong)):
                self.assertIs(answer.shows(""), False)
            for answer in (Parted(wrong, 2, 2), Parted(0, wrong, 2), Parted(0, 2, wrong)):
                self.assertIs(answer.shows("xx.."), False)

    def test_true_and_false_are_no_numbers(self):
        self.assertIs(Even(1).shows(".x"), True)
        self.assertIs(Even(True).shows(".x"), False)
        self.assertIs(Even(0).shows("x."), True)
        self.assertIs(Even(False).shows("x."), False)
        self.assertIs(Apart(1, 3, 2).shows(".xx.."), True)
        self.assertIs(Apart(True, 3, 2).shows(".xx.."), False)
        self.assertIs(Parted(False, 2, 2).shows("xx.."), False)
        self.assertIs(Begun(True, 1, 0).shows("x"), False)

    def test_of_no_ring_and_no_row_nothing_is_shown(self):
        for wrong in NO_RINGS:
            self.assertIs(Even(0).shows(wrong), False)
            self.assertIs(Apart(0, 0, 0).shows(wrong), False)
        for wrong in NO_ROWS:
            self.assertIs(Begun(1, 2, 0).shows(wrong), False)
            self.assertIs(Parted(0, 0, 0).shows(wrong), False)
        self.assertIs(Apart(0, 2, 2).shows("xxoo"), False)
        self.assertIs(Parted(0, 2, 2).shows("xxoo"), False)


if __name__ == "__main__":
    unittest.main()
