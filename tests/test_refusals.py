"""Point 10: what is refused, in which order, and that nothing has changed behind it."""

import unittest

from boxpile.errors import Full, NoBox, NoHand, NoSize, NoSlot
from boxpile.pile import Pile
from piles import HUGE, full_pile, shown

BAD_HANDS = (-1, 8, 9, -8, HUGE, -HUGE)
BAD_SIZES = (-1, 7, 8, HUGE, -HUGE)


class RefusalsTest(unittest.TestCase):
    def setUp(self):
        """Hand 0 holds box 0 of two slots, hand 1 box 1 of none, hand 2 box 2 of six; hand 3 none."""
        self.pile = Pile()
        for hand, size in ((0, 2), (1, 0), (2, 6)):
            self.pile.make(hand, size)
        self.pile.put(0, 0, 1)
        self.pile.put(2, 5, 0)

    def refused(self, kind, deed, *numbers):
        with self.subTest(deed=deed, numbers=numbers):
            before = shown(self.pile)
            with self.assertRaises(kind):
                getattr(self.pile, deed)(*numbers)
            self.assertEqual(shown(self.pile), before)

    def test_no_hand(self):
        for bad in BAD_HANDS:
            for deed, numbers in (
                ("make", (bad, 1)),
                ("hold", (bad, 0)), ("hold", (0, bad)), ("hold", (bad, bad)),
                ("drop", (bad,)),
                ("put", (bad, 0, 0)), ("put", (0, 0, bad)), ("put", (bad, 0, bad)),
                ("empty", (bad, 0)),
                ("take", (bad, 0, 0)), ("take", (0, bad, 0)), ("take", (bad, bad, 0)),
                ("holds", (bad,)),
            ):
                self.refused(NoHand, deed, *numbers)

    def test_no_hand_is_told_before_all_else(self):
        for bad in BAD_HANDS:
            self.refused(NoHand, "make", bad, 7)
            self.refused(NoHand, "put", bad, 9, 3)
            self.refused(NoHand, "put", 3, 0, bad)
            self.refused(NoHand, "put", 3, 9, bad)
            self.refused(NoHand, "put", 0, 2, bad)
            self.refused(NoHand, "empty", bad, 9)
            self.refused(NoHand, "take", bad, 3, 0)
            self.refused(NoHand, "take", bad, 0, 9)
            self.refused(NoHand, "take", 3, bad, 9)

    def test_no_size(self):
        for bad in BAD_SIZES:
            self.refused(NoSize, "make", 0, bad)
            self.refused(NoSize, "make", 7, bad)

    def test_full(self):
        self.pile = full_pile()
        for hand in range(8):
            for size in range(7):
                self.refused(Full, "make", hand, size)

    def test_full_is_told_behind_hand_and_size(self):
        self.pile = full_pile()
        for bad in BAD_HANDS:
            self.refused(NoHand, "make", bad, 0)
            self.refused(NoHand, "make", bad, 7)
        for bad in BAD_SIZES:
            self.refused(NoSize, "make", 0, bad)

    def test_full_even_where_the_hand_would_free_a_box(self):
        self.pile = full_pile()
        self.assertEqual(self.pile.weighs(59), 1)
        self.refused(Full, "make", 0, 0)
        self.assertEqual(self.pile.holds(0), 59)

    def test_full_of_rings_that_no_hand_comes_to(self):
        self.pile = Pile()
        for _ in range(60):
            self.pile.make(0, 1)
            self.pile.put(0, 0, 0)
            self.pile.drop(0)
        self.refused(Full, "make", 0, 1)
        self.assertEqual(self.pile.alive(), list(range(60)))

    def test_one_below_full(self):
        self.pile = full_pile()
        self.pile.take(0, 0, 0)
        self.assertEqual(len(self.pile.alive()), 59)
        self.assertEqual(self.pile.make(7, 6), [])
        self.refused(Full, "make", 7, 6)

    def test_no_box_in_the_hand(self):
        for slot in (0, 5, 6, -1, HUGE, -HUGE):
            self.refused(NoBox, "put", 3, slot, 0)
            self.refused(NoBox, "put", 3, slot, 3)
            self.refused(NoBox, "put", 7, slot, 0)
            self.refused(NoBox, "empty", 3, slot)
            self.refused(NoBox, "take", 0, 3, slot)
            self.refused(NoBox, "take", 3, 3, slot)

    def test_the_hand_behind_a_drop_holds_no_box(self):
        self.pile.drop(0)
        self.refused(NoBox, "empty", 0, 0)

    def test_no_slot(self):
        for hand, size in ((0, 2), (1, 0), (2, 6)):
            for bad in (-1, -2, -6, size, size + 1, 7, HUGE, -HUGE):
                self.refused(NoSlot, "put", hand, bad, 0)
                self.refused(NoSlot, "put", hand, bad, 3)
                self.refused(NoSlot, "empty", hand, bad)
                self.refused(NoSlot, "take", hand, hand, bad)
                self.refused(NoSlot, "take", 3, hand, bad)

    def test_the_highest_slot_is_there(self):
        self.assertEqual(self.pile.put(2, 5, 1), [])
        self.assertEqual(self.pile.empty(0, 1), [])
        self.assertEqual(self.pile.take(6, 2, 5), [])
        self.assertEqual(self.pile.holds(6), 1)

    def test_no_box_of_this_number(self):
        for number in (-1, 3, 60, HUGE, -HUGE):
            self.refused(NoBox, "points", number)
            self.refused(NoBox, "weighs", number)

    def test_a_freed_box_is_no_box(self):
        self.pile.empty(2, 5)
        self.assertEqual(self.pile.drop(0), [0])
        self.refused(NoBox, "points", 0)
        self.refused(NoBox, "weighs", 0)

    def test_a_box_is_none_before_it_is_made(self):
        pile = Pile()
        with self.assertRaises(NoBox):
            pile.points(0)
        pile.make(0, 1)
        self.assertEqual(pile.points(0), [None])

    def test_a_refused_make_uses_no_number_up(self):
        self.refused(NoSize, "make", 0, 7)
        self.refused(NoHand, "make", 8, 1)
        self.pile.make(3, 0)
        self.assertEqual(self.pile.holds(3), 3)
        self.pile = full_pile()
        self.refused(Full, "make", 0, 1)
        self.pile.take(0, 0, 0)
        self.pile.make(1, 1)
        self.assertEqual(self.pile.holds(1), 60)

    def test_what_is_refused_lets_nothing_go(self):
        self.refused(NoSlot, "put", 0, 2, 1)
        self.refused(NoSlot, "take", 1, 0, 2)
        self.refused(NoBox, "take", 1, 3, 0)
        self.assertEqual(self.pile.suspects(), [])

    def test_numbers_far_beyond_the_limit_are_refused_alike(self):
        far = 10 ** 5000
        self.refused(NoHand, "drop", far)
        self.refused(NoSize, "make", 0, -far)
        self.refused(NoSlot, "empty", 0, far)
        self.refused(NoBox, "weighs", -far)


if __name__ == "__main__":
    unittest.main()
