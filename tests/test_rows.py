import unittest

from evenbeats.answers import Begun, Parted
from evenbeats.errors import BadRing
from evenbeats.rings import laid, reckoned
from evenbeats.rows import begun
from tests.by_hand import (
    NO_ROWS, VERY_GREAT, RefusalCase, is_unparted_by_hand, parted_by_hand, row_by_hand, rows_up_to, with_other_sign,
    with_sign,
)


class ToldCase(RefusalCase):
    def told_begun(self, row):
        answer = begun(row)
        self.assertIs(type(answer), Begun, row)
        self.assertEqual([type(field) for field in vars(answer).values()], [int] * 3)
        self.assertGreater(answer.places, 0)
        self.assertIn(answer.beats, range(answer.places + 1))
        self.assertEqual(row_by_hand(answer.beats, answer.places, answer.shift, len(row)), row)
        self.assertIs(answer.shows(row), True)

    def told_parted(self, row):
        answer = begun(row)
        self.assertIs(type(answer), Parted, row)
        self.assertEqual([type(field) for field in vars(answer).values()], [int] * 3)
        self.assertTrue(parted_by_hand(row, answer.first, answer.second, answer.many), (row, vars(answer)))
        self.assertIs(answer.shows(row), True)

    def told_rightly(self, row):
        if is_unparted_by_hand(row):
            self.told_begun(row)
        else:
            self.told_parted(row)


class BegunTellingTest(ToldCase):
    def test_rows_known_beforehand(self):
        for row in ("x..x..x.", "x.x", "..x", "x..x", ".xx.", "x..x..x.x..x", ".xx.xx.x.xx", "xx.x.x"):
            self.told_begun(row)
        for row in ("xx..", "..xx", "xx.x..", "x.x...", "xx.xxx.x.x", "...x.x"):
            self.told_parted(row)

    def test_the_row_of_no_places(self):
        self.told_begun("")

    def test_every_row_of_up_to_eleven_places(self):
        for row in rows_up_to(11):
            self.told_rightly(row)

    def test_no_beats_beats_alone_one_beat_one_rest(self):
        for places in (1, 2, 3, 4, 7, 30, 300):
            self.told_begun("." * places)
            self.told_begun("x" * places)
            for place in {0, 1 % places, places // 2, places - 1}:
                self.told_begun(with_sign("." * places, place, "x"))
                self.told_begun(with_sign("x" * places, place, "."))

    def test_a_row_does_not_go_around(self):
        # As a ring each of these is apart.
        for row in ("x..x", ".xx.", "x...x", "xx.x", "x" * 200 + "." + "x" * 150):
            self.told_begun(row)

    def test_rows_reckoned(self):
        for places in range(1, 10):
            for beats in range(places + 1):
                for shift in range(-1, places):
                    for many in (0, 1, places - 1, places, places + 1, 3 * places + 2):
                        self.told_begun(reckoned(beats, places, shift, many))

    def test_rows_reckoned_by_very_great_numbers(self):
        great = 10 ** 60
        for beats in (0, 1, great // 7, great // 3, great // 2, great - great // 5, great - 1, great):
            for shift in (0, 1, -1, great // 2, great - 1):
                self.told_begun(reckoned(beats, great, shift, 60))
        self.told_begun(reckoned(VERY_GREAT // 3, VERY_GREAT, VERY_GREAT // 9, 40))

    def test_one_sign_changed(self):
        for beats, places, shift, many in ((3, 8, 0, 20), (5, 8, 3, 24), (1, 6, 2, 15), (7, 9, 1, 22), (13, 34, 5, 34)):
            row = reckoned(beats, places, shift, many)
            for place in range(many):
                self.told_rightly(with_other_sign(row, place))

    def test_another_row_behind(self):
        rows = [reckoned(beats, places, 2, 13) for places in range(1, 8) for beats in range(places + 1)]
        for row in rows:
            for behind in rows:
                self.told_rightly(row + behind)

    def test_arguments_by_name(self):
        self.assertIs(begun(row="x.").shows("x."), True)


class ManyPlacesTest(ToldCase):
    def test_rows_of_some_hundred_places(self):
        for beats, places in ((1, 2), (3, 8), (89, 233), (144, 233), (100, 999), (7, 500), (1, 1000), (999, 1000)):
            for shift in (0, 1, 77, -5):
                for many in (200, 333, 500):
                    self.told_begun(reckoned(beats, places, shift, many))

    def test_one_sign_changed_in_rows_of_some_hundred_places(self):
        for beats, places in ((3, 8), (89, 233), (7, 500)):
            row = reckoned(beats, places, 5, 250)
            seen = []
            for place in (0, 1, 2, 60, 125, 200, 248, 249):
                changed = with_other_sign(row, place)
                seen.append(is_unparted_by_hand(changed))
                self.told_rightly(changed)
            self.assertIn(False, seen)

    def test_another_row_behind_of_some_hundred_places(self):
        rows = [laid(89, 233), reckoned(89, 233, 4, 200), reckoned(90, 233, 4, 200), "x" * 200, "." * 200]
        for row in rows:
            for behind in rows:
                self.told_rightly(row + behind)

    def test_parted_by_long_stretches_alone(self):
        # Only from the first gap of three places to the second one are there two beats less than before them.
        row = "x." * 101 + "x.." + "x." * 100
        self.told_begun(row)
        self.told_begun(row + "x..")
        row = "x." * 101 + "x.." + "x." * 99 + "x.."
        self.told_begun(row[:-1])
        self.told_parted(row)
        self.assertGreater(begun(row).many, 200)

    def test_a_thousand_places(self):
        row = reckoned(377, 1000, 11, 1500)
        self.told_begun(row)
        self.told_parted(row + "xx..")


class RowRefusalTest(ToldCase):
    def test_what_is_no_row_is_refused(self):
        for wrong in NO_ROWS:
            self.refused(BadRing, begun, wrong)

    def test_a_wrong_sign_anywhere_is_refused(self):
        row = reckoned(3, 8, 0, 400)
        for place in (0, 1, 199, 398, 399):
            for sign in ("o", " ", "X", ",", "\n"):
                self.refused(BadRing, begun, with_sign(row, place, sign))
        self.refused(BadRing, begun, "xx..o")


class NewAnswerTest(unittest.TestCase):
    def test_each_answer_is_a_new_one(self):
        for row in ("", "x.x.", "xx.."):
            first = begun(row)
            before = dict(vars(first))
            for name in before:
                setattr(first, name, -1)
            again = begun(row)
            self.assertIsNot(again, first)
            self.assertEqual(vars(again), before)


if __name__ == "__main__":
    unittest.main()
