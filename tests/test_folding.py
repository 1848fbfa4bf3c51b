import unittest

from evenbeats.errors import BadCount, BadRing, NoBeat, Uneven
from evenbeats.folding import folded, folds, gaps, unfolded
from evenbeats.rings import laid, turned
from tests.by_hand import (
    NO_NUMBERS, NO_RINGS, VERY_GREAT, RefusalCase, gaps_by_hand, is_even_by_hand, is_even_by_slices, rings_up_to,
    with_sign, with_signs_exchanged,
)


def with_a_beat(places):
    return [ring for ring in rings_up_to(places) if "x" in ring]


def can_be_folded(ring):
    told = gaps_by_hand(ring)
    return max(told) - min(told) <= 1


def long_rings():
    for beats, places in ((1, 200), (89, 233), (144, 233), (100, 300), (150, 300), (299, 300), (300, 300), (7, 500)):
        for by in (0, 1, 97):
            yield turned(laid(beats, places), by)


class GapsTest(RefusalCase):
    def test_rings_known_beforehand(self):
        self.assertEqual(gaps("x..x..x."), [3, 3, 2])
        self.assertEqual(gaps(".x..x.x."), [3, 2, 3])
        self.assertEqual(gaps("..xx"), [1, 3])
        self.assertEqual(gaps("xxx"), [1, 1, 1])
        self.assertEqual(gaps("xx."), [1, 2])

    def test_one_beat_comes_again_once_around(self):
        self.assertEqual(gaps("x"), [1])
        for places in range(1, 12):
            for by in range(places):
                self.assertEqual(gaps(turned("x" + "." * (places - 1), by)), [places])

    def test_step_by_step(self):
        for ring in with_a_beat(10):
            self.assertEqual(gaps(ring), gaps_by_hand(ring), ring)

    def test_the_gaps_go_once_around_from_beat_to_beat(self):
        for ring in with_a_beat(9):
            told = gaps(ring)
            self.assertEqual(len(told), ring.count("x"))
            self.assertEqual(sum(told), len(ring))
            place = ring.index("x")
            for gap in told:
                place = (place + gap) % len(ring)
                self.assertEqual(ring[place], "x")

    def test_rings_of_some_hundred_places(self):
        for ring in long_rings():
            self.assertEqual(gaps(ring), gaps_by_hand(ring))
        self.assertEqual(gaps("." * 300 + "x" + "." * 99 + "x"), [100, 301])

    def test_a_new_list_each_time(self):
        told = gaps("x..x.")
        self.assertIs(type(told), list)
        told.append(7)
        told[0] = 9
        self.assertEqual(gaps("x..x."), [3, 2])
        self.assertEqual(folded("x..x."), "x.")

    def test_arguments_by_name(self):
        self.assertEqual(gaps(ring="x."), [2])

    def test_refusals(self):
        for wrong in NO_RINGS:
            self.refused(BadRing, gaps, wrong)
        for places in (1, 2, 3, 10, 400):
            self.refused(NoBeat, gaps, "." * places)

    def test_the_ring_is_refused_ahead_of_its_beats(self):
        for wrong in ("", "...o", " ...", "...\n"):
            self.refused(BadRing, gaps, wrong)


class FoldedTest(RefusalCase):
    def test_rings_known_beforehand(self):
        self.assertEqual(folded("x..x..x."), "xx.")
        self.assertEqual(folded(".x..x.x."), "x.x")
        self.assertEqual(folded("x.x.xx.x"), "xx.x.")
        self.assertEqual(folded("xx."), ".x")
        self.assertEqual(folded("xxxx"), "....")
        self.assertEqual(folded("x.x.x."), "...")
        self.assertEqual(folded("x..x."), "x.")
        self.assertEqual(folded("xx.x.xx.x."), ".xx.xx")

    def test_one_beat_folds_into_one_rest(self):
        for places in range(1, 9):
            for by in range(places):
                self.assertEqual(folded(turned("x" + "." * (places - 1), by)), ".")

    def test_a_place_for_each_gap(self):
        for ring in with_a_beat(10):
            told = gaps_by_hand(ring)
            if can_be_folded(ring):
                self.assertEqual(list(folded(ring)), ["x" if gap > min(told) else "." for gap in told], ring)
            else:
                self.refused(Uneven, folded, ring)

    def test_a_ring_that_is_not_even_can_be_folded_where_its_gaps_are_alike(self):
        ring = "x..x..x.x."
        self.assertFalse(is_even_by_hand(ring))
        self.assertEqual(folded(ring), "xx..")

    def test_unfolded_by_the_least_gap_it_is_the_ring_from_its_first_beat_on(self):
        for ring in with_a_beat(10):
            if can_be_folded(ring):
                again = unfolded(folded(ring), min(gaps_by_hand(ring)))
                self.assertEqual(again, turned(ring, ring.index("x")))

    def test_rings_of_some_hundred_places(self):
        for ring in long_rings():
            told = gaps_by_hand(ring)
            again = folded(ring)
            self.assertEqual(list(again), ["x" if gap > min(told) else "." for gap in told])
            self.assertEqual(unfolded(again, min(told)), turned(ring, ring.index("x")))

    def test_arguments_by_name(self):
        self.assertEqual(folded(ring="x."), ".")

    def test_refusals(self):
        for wrong in NO_RINGS:
            self.refused(BadRing, folded, wrong)
        for places in (1, 2, 3, 10, 400):
            self.refused(NoBeat, folded, "." * places)
        for ring in ("xx..", "x..x", "x...x.", "xxx..", ".x.x..", "x" * 300 + ".."):
            self.refused(Uneven, folded, ring)

    def test_gaps_unlike_by_one_and_by_two(self):
        for gap in range(1, 8):
            row = "x" + "." * (gap - 1)
            self.assertEqual(folded(row + row), "..")
            self.assertEqual(folded(row + row + "."), ".x")
            self.refused(Uneven, folded, row + row + "..")
            self.refused(Uneven, folded, "." + row + row + ".")
            self.refused(Uneven, folded, row + row + ".....")

    def test_which_refusal_goes_first(self):
        self.refused(BadRing, folded, "....o")
        self.refused(BadRing, folded, "xx...o")
        self.refused(BadRing, folded, "")


class UnfoldedTest(RefusalCase):
    def test_rings_known_beforehand(self):
        self.assertEqual(unfolded("xx.", 2), "x..x..x.")
        self.assertEqual(unfolded("x.x", 2), "x..x.x..")
        self.assertEqual(unfolded(".", 1), "x")
        self.assertEqual(unfolded("x", 1), "x.")
        self.assertEqual(unfolded("..", 3), "x..x..")
        self.assertEqual(unfolded("xx", 3), "x...x...")

    def test_by_a_gap_of_one(self):
        for ring in rings_up_to(7):
            self.assertEqual(unfolded(ring, 1), "".join([{"x": "x.", ".": "x"}[sign] for sign in ring]))

    def test_for_each_place_a_beat_and_rests(self):
        for ring in rings_up_to(7):
            for gap in range(1, 6):
                places = []
                for sign in ring:
                    places.append("x")
                    places.extend(["."] * (gap - 1))
                    if sign == "x":
                        places.append(".")
                self.assertEqual(list(unfolded(ring, gap)), places)
                self.assertEqual(len(places), len(ring) * gap + ring.count("x"))

    def test_folded_again_it_is_the_ring_where_it_has_a_rest(self):
        for ring in rings_up_to(8):
            for gap in (1, 2, 3, 9):
                # Where each gap is one longer, none is longer than the least.
                again = ring if "." in ring else "." * len(ring)
                self.assertEqual(folded(unfolded(ring, gap)), again)

    def test_it_is_even_just_where_the_ring_is(self):
        for ring in rings_up_to(6):
            for gap in (1, 2, 3):
                self.assertEqual(is_even_by_hand(unfolded(ring, gap)), is_even_by_hand(ring))

    def test_many_places(self):
        self.assertEqual(unfolded("x.", 1000), "x" + "." * 1000 + "x" + "." * 999)
        for ring in long_rings():
            told = unfolded(ring, 5)
            self.assertEqual(told, "".join([{"x": "x.....", ".": "x...."}[sign] for sign in ring]))

    def test_arguments_by_name(self):
        self.assertEqual(unfolded(ring="x", gap=2), "x..")

    def test_refusals(self):
        for wrong in NO_RINGS:
            self.refused(BadRing, unfolded, wrong, 1)
        for ring in ("x", ".", "x.x"):
            for wrong in NO_NUMBERS + (0, -1, -2, -VERY_GREAT):
                self.refused(BadCount, unfolded, ring, wrong)

    def test_the_ring_is_refused_ahead_of_the_gap(self):
        for no_ring in NO_RINGS:
            for wrong in NO_NUMBERS + (0, -1, -VERY_GREAT):
                self.refused(BadRing, unfolded, no_ring, wrong)


class FoldsTest(RefusalCase):
    def each_on_the_way(self, ring):
        told = folds(ring)
        self.assertIs(type(told), list)
        self.assertEqual(told[0], ring)
        self.assertNotIn("x", told[-1])
        self.assertGreaterEqual(len(told[-1]), 1)
        for one, then in zip(told, told[1:]):
            self.assertIn("x", one)
            between = gaps_by_hand(one)
            self.assertLessEqual(max(between) - min(between), 1)
            self.assertEqual(list(then), ["x" if gap > min(between) else "." for gap in between])

    def test_rings_known_beforehand(self):
        self.assertEqual(folds("x..x..x."), ["x..x..x.", "xx.", ".x", "."])
        self.assertEqual(folds("x.x.xx.x"), ["x.x.xx.x", "xx.x.", ".xx", ".x", "."])
        self.assertEqual(folds("x.x."), ["x.x.", ".."])
        self.assertEqual(folds("..."), ["..."])
        self.assertEqual(folds("xxx"), ["xxx", "..."])
        self.assertEqual(folds("x"), ["x", "."])
        self.assertEqual(folds("."), ["."])
        self.assertEqual(folds(".x"), [".x", "."])
        self.assertEqual(folds("xxx."), ["xxx.", "..x", "."])

    def test_every_ring_of_up_to_eleven_places(self):
        for ring in rings_up_to(11):
            if is_even_by_hand(ring):
                self.each_on_the_way(ring)
            else:
                self.refused(Uneven, folds, ring)

    def test_a_ring_that_can_be_folded_but_not_to_the_end(self):
        ring = "x..x..x.x."
        self.assertEqual(folded(ring), "xx..")
        self.refused(Uneven, folds, ring)
        for gap in (1, 2, 3):
            self.refused(Uneven, folds, unfolded(unfolded(ring, gap), gap))

    def test_rings_laid_and_turned(self):
        for places in range(1, 21):
            for beats in range(places + 1):
                for by in range(places):
                    self.each_on_the_way(turned(laid(beats, places), by))

    def test_rings_of_some_hundred_places(self):
        for ring in long_rings():
            self.each_on_the_way(ring)
        self.assertEqual(folds("." * 400), ["." * 400])
        self.assertEqual(folds("x" * 400), ["x" * 400, "." * 400])

    def test_rings_of_some_hundred_places_changed(self):
        for beats, places in ((89, 233), (100, 250), (3, 200)):
            ring = laid(beats, places)
            for place in range(0, places, 23):
                for changed in (with_sign(ring, place, "x"), with_signs_exchanged(ring, place, (place + 1) % places)):
                    if is_even_by_slices(changed):
                        self.each_on_the_way(changed)
                    else:
                        self.refused(Uneven, folds, changed)

    def test_a_new_list_each_time(self):
        told = folds("x..x.")
        self.assertEqual(told, ["x..x.", "x.", "."])
        told[0] = "x"
        told.append("xx")
        self.assertEqual(folds("x..x."), ["x..x.", "x.", "."])
        none = folds("..")
        none.clear()
        self.assertEqual(folds(".."), [".."])

    def test_arguments_by_name(self):
        self.assertEqual(folds(ring="x."), ["x.", "."])

    def test_refusals(self):
        for wrong in NO_RINGS + ("xx..o", "...o"):
            self.refused(BadRing, folds, wrong)
        for ring in ("xx..", "x..x", ".xx.", "xxx..", "x" * 300 + ".."):
            self.refused(Uneven, folds, ring)


if __name__ == "__main__":
    unittest.main()
