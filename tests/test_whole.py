"""What is promised over the whole program: its interface, its refusals, and that it keeps nothing."""

import inspect
import unittest

from evenbeats import answers, errors, folding, rings, rows, telling
from tests.by_hand import NO_NUMBERS, NO_RINGS, NO_ROWS, VERY_GREAT, RefusalCase, rings_up_to

INTERFACE = (
    (rings.reckoned, ["beats", "places", "shift", "many"]),
    (rings.laid, ["beats", "places"]),
    (rings.turned, ["ring", "by"]),
    (rings.exchanged, ["ring"]),
    (rings.about, ["ring"]),
    (answers.Even, ["turn"]),
    (answers.Apart, ["first", "second", "many"]),
    (answers.Begun, ["beats", "places", "shift"]),
    (answers.Parted, ["first", "second", "many"]),
    (telling.even, ["ring"]),
    (folding.gaps, ["ring"]),
    (folding.folded, ["ring"]),
    (folding.unfolded, ["ring", "gap"]),
    (folding.folds, ["ring"]),
    (rows.begun, ["row"]),
)

OF_A_RING = (rings.exchanged, rings.about, telling.even, folding.gaps, folding.folded, folding.folds)


def seen(told):
    return (type(told), vars(told)) if isinstance(told, answers.Answer) else (type(told), told)


def all_told(ring):
    """All that the program tells of a ring, a refusal by its class."""
    calls = [(call, (ring,)) for call in OF_A_RING]
    calls += [(rows.begun, (ring,)), (rings.turned, (ring, 2)), (folding.unfolded, (ring, 2))]
    told = []
    for call, given in calls:
        try:
            told.append(call(*given))
        except errors.BeatError as raised:
            told.append(type(raised).__name__)
    return told


class InterfaceTest(unittest.TestCase):
    def test_names_and_arguments(self):
        for call, names in INTERFACE:
            self.assertEqual(list(inspect.signature(call).parameters), names, call.__name__)
        for kind in (answers.Even, answers.Apart):
            self.assertEqual(list(inspect.signature(kind.shows).parameters), ["self", "ring"])
        for kind in (answers.Begun, answers.Parted):
            self.assertEqual(list(inspect.signature(kind.shows).parameters), ["self", "row"])

    def test_kinds(self):
        self.assertIs(type(telling.even("x.")), answers.Even)
        self.assertIs(type(telling.even("xx..")), answers.Apart)
        self.assertIs(type(rows.begun("x.")), answers.Begun)
        self.assertIs(type(rows.begun("xx..")), answers.Parted)
        self.assertEqual([type(gap) for gap in folding.gaps("x..x.")], [int, int])
        self.assertEqual([type(ring) for ring in folding.folds("x..x.")], [str, str, str])
        self.assertIs(type(folding.folded("x..x.")), str)
        self.assertIs(type(folding.unfolded("x.", 2)), str)


class RefusalTest(RefusalCase):
    def test_no_ring(self):
        for wrong in NO_RINGS:
            for call in OF_A_RING:
                self.refused(errors.BadRing, call, wrong)
            self.refused(errors.BadRing, rings.turned, wrong, 1)
            self.refused(errors.BadRing, folding.unfolded, wrong, 1)

    def test_no_row(self):
        for wrong in NO_ROWS:
            self.refused(errors.BadRing, rows.begun, wrong)

    def test_no_whole_number(self):
        for wrong in NO_NUMBERS:
            self.refused(errors.BadCount, rings.reckoned, wrong, 1, 0, 1)
            self.refused(errors.BadCount, rings.reckoned, 0, wrong, 0, 1)
            self.refused(errors.BadCount, rings.reckoned, 0, 1, wrong, 1)
            self.refused(errors.BadCount, rings.reckoned, 0, 1, 0, wrong)
            self.refused(errors.BadCount, rings.laid, wrong, 1)
            self.refused(errors.BadCount, rings.laid, 0, wrong)
            self.refused(errors.BadCount, rings.turned, "x", wrong)
            self.refused(errors.BadCount, folding.unfolded, "x", wrong)

    def test_which_refusal_goes_first(self):
        for no_ring in NO_RINGS:
            for no_number in NO_NUMBERS + (0, -VERY_GREAT):
                self.refused(errors.BadRing, rings.turned, no_ring, no_number)
                self.refused(errors.BadRing, folding.unfolded, no_ring, no_number)
        for call in (folding.gaps, folding.folded):
            self.refused(errors.NoBeat, call, "....")
            self.refused(errors.BadRing, call, "....o")

    def test_a_refusal_changes_no_later_answer(self):
        before = [seen(told) for told in all_told("x..x.")]
        for wrong in NO_RINGS:
            all_told(wrong)
        self.assertEqual([seen(told) for told in all_told("x..x.")], before)


class NothingKeptTest(unittest.TestCase):
    def test_told_the_same_again_in_any_order(self):
        asked = rings_up_to(7)
        first = [[seen(told) for told in all_told(ring)] for ring in asked]
        again = [[seen(told) for told in all_told(ring)] for ring in reversed(asked)]
        self.assertEqual(first, again[::-1])

    def test_what_was_told_and_is_then_changed_changes_no_later_answer(self):
        for ring in rings_up_to(6):
            before = [seen(told) for told in all_told(ring)]
            copies = [(kind, list(told) if kind is list else told) for kind, told in before]
            copies = [(kind, dict(told) if isinstance(told, dict) else told) for kind, told in copies]
            for told in all_told(ring):
                if isinstance(told, list):
                    told.clear()
                elif isinstance(told, answers.Answer):
                    for name in list(vars(told)):
                        setattr(told, name, None)
            self.assertEqual([seen(told) for told in all_told(ring)], copies)

    def test_no_two_answers_are_one_object(self):
        for ring in ("x..x.", "xx..", "...", "x"):
            for one, other in zip(all_told(ring), all_told(ring)):
                if not isinstance(one, str):
                    self.assertIsNot(one, other)


if __name__ == "__main__":
    unittest.main()
