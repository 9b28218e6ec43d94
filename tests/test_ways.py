"""Point 9: what a hand comes to, the way told to a box, and where a way leads."""

import itertools
import random
import unittest

from boxpile.errors import NoBox, NoHand, NoSlot
from boxpile.pile import HANDS, MOST_ALIVE, Pile
from boxpile.ways import come_to, led, way_to
from piles import HUGE, chain, full_pile, lost_ring, ring, shown


class ComeToTest(unittest.TestCase):
    def test_an_empty_pile(self):
        self.assertEqual(come_to(Pile()), [])

    def test_hands_alone(self):
        pile = Pile()
        for hand in (5, 0, 7):
            pile.make(hand, 2)
        pile.hold(6, 5)
        self.assertEqual(come_to(pile), [0, 1, 2])

    def test_by_slots(self):
        self.assertEqual(come_to(chain(4)), [0, 1, 2, 3])
        self.assertEqual(come_to(ring(5)), [0, 1, 2, 3, 4])
        self.assertEqual(come_to(full_pile()), list(range(60)))
        self.assertEqual(come_to(ring(MOST_ALIVE)), list(range(60)))

    def test_not_what_is_lost(self):
        pile = lost_ring(3)
        self.assertEqual(come_to(pile), [])
        ring(2, pile)
        pile.hold(7, 0)
        pile.drop(0)
        self.assertEqual(come_to(pile), [3, 4])

    def test_a_new_list_and_nothing_changed(self):
        pile = ring(3)
        before = shown(pile)
        come_to(pile).clear()
        self.assertEqual(come_to(pile), [0, 1, 2])
        self.assertEqual(shown(pile), before)


class WayToTest(unittest.TestCase):
    def setUp(self):
        self.pile = Pile()

    def put_all(self, places):
        for hand, slot, other in places:
            self.pile.put(hand, slot, other)

    def test_a_hand_alone(self):
        self.pile.make(3, 0)
        self.assertEqual(way_to(self.pile, 0), [3])
        self.pile.hold(6, 3)
        self.assertEqual(way_to(self.pile, 0), [3])
        self.pile.hold(1, 3)
        self.assertEqual(way_to(self.pile, 0), [1])
        self.pile.drop(1)
        self.pile.drop(3)
        self.assertEqual(way_to(self.pile, 0), [6])

    def test_over_slots(self):
        pile = chain(4)
        self.assertEqual([way_to(pile, number) for number in (3, 2, 1, 0)], [[0], [0, 0], [0, 0, 0], [0, 0, 0, 0]])

    def test_the_fewest_slots_before_the_least_numbers(self):
        """Hand 0 comes to box 2 by two slots, hand 5 by one, hand 7 by none."""
        for hand in (0, 1, 2):
            self.pile.make(hand, 6)
        self.put_all([(0, 0, 1), (1, 0, 2)])
        self.pile.hold(7, 2)
        self.pile.hold(5, 1)
        self.pile.drop(1)
        self.pile.drop(2)
        self.assertEqual(way_to(self.pile, 2), [7])
        self.pile.drop(7)
        self.assertEqual(way_to(self.pile, 2), [5, 0])
        self.pile.drop(5)
        self.assertEqual(way_to(self.pile, 2), [0, 0, 0])

    def test_the_least_hand_of_ways_of_one_length(self):
        for hand in (0, 1, 2):
            self.pile.make(hand, 6)
        self.put_all([(0, 5, 2), (1, 0, 2)])
        self.pile.drop(2)
        self.assertEqual(way_to(self.pile, 2), [0, 5])

    def test_the_least_slot_of_several_at_one_box(self):
        self.pile.make(2, 6)
        self.pile.make(3, 0)
        self.put_all([(2, 5, 3), (2, 3, 3), (2, 4, 3)])
        self.pile.drop(3)
        self.assertEqual(way_to(self.pile, 1), [2, 3])

    def test_number_by_number_from_the_left(self):
        """0 points at 1 by slot 4 and at 2 by slot 1; 1 at 3 by slot 0, 2 at 3 by slot 5."""
        for hand in range(4):
            self.pile.make(hand, 6)
        self.put_all([(0, 4, 1), (0, 1, 2), (1, 0, 3), (2, 5, 3)])
        for hand in (1, 2, 3):
            self.pile.drop(hand)
        self.assertEqual(way_to(self.pile, 3), [0, 1, 5])

    def test_the_number_of_a_box_counts_for_nothing(self):
        """0 points at 2 by slot 0 and at 1 by slot 1; both of them point at 3."""
        for hand in range(4):
            self.pile.make(hand, 2)
        self.put_all([(0, 0, 2), (0, 1, 1), (2, 1, 3), (1, 0, 3)])
        for hand in (1, 2, 3):
            self.pile.drop(hand)
        self.assertEqual(way_to(self.pile, 3), [0, 0, 1])

    def test_the_least_hand_of_those_that_hold_the_first_box(self):
        for hand in (4, 6):
            self.pile.make(hand, 1)
        self.put_all([(4, 0, 6)])
        self.pile.drop(6)
        self.pile.hold(2, 4)
        self.assertEqual(way_to(self.pile, 1), [2, 0])

    def test_a_box_that_points_at_itself(self):
        self.pile.make(0, 1)
        self.put_all([(0, 0, 0)])
        self.assertEqual(way_to(self.pile, 0), [0])

    def test_none_where_no_way_leads(self):
        pile = lost_ring(3)
        pile.make(0, 0)
        self.assertEqual([way_to(pile, number) for number in range(4)], [None, None, None, [0]])

    def test_long_chains_and_rings(self):
        pile = full_pile()
        self.assertEqual(way_to(pile, 0), [0] * 60)
        self.assertEqual(led(pile, [0] * 60), 0)
        pile = ring(MOST_ALIVE)
        self.assertEqual(way_to(pile, 1), [0] * 60)
        self.assertEqual(way_to(pile, 59), [0, 0])

    def test_boxes_that_are_not_alive(self):
        pile = chain(3)
        pile.take(0, 0, 0)
        before = shown(pile)
        for bad in (2, 3, 60, -1, HUGE, -HUGE):
            with self.subTest(bad), self.assertRaises(NoBox):
                way_to(pile, bad)
        with self.assertRaises(NoBox):
            way_to(Pile(), 0)
        self.assertEqual(shown(pile), before)

    def test_a_new_list_and_nothing_changed(self):
        pile = chain(3)
        before = shown(pile)
        way_to(pile, 0).append(5)
        way_to(pile, 1).clear()
        self.assertEqual(way_to(pile, 0), [0, 0, 0])
        self.assertEqual(way_to(pile, 1), [0, 0])
        self.assertEqual(shown(pile), before)

    def test_against_all_ways_there_are(self):
        for seed in range(40):
            chance = random.Random(seed)
            pile = Pile()
            for hand in range(6):
                pile.make(hand, 3)
            for _ in range(9):
                pile.put(chance.randrange(6), chance.randrange(3), chance.randrange(6))
            for hand in chance.sample(range(6), 4):
                pile.drop(hand)
            for number in pile.alive():
                self.assertEqual(way_to(pile, number), tried(pile, number), seed)


def tried(pile, number):
    """The first of all ways, the shorter ones first, that leads to a box; of four slots at the most."""
    for slots in range(5):
        for way in itertools.product(range(HANDS), *[range(3)] * slots):
            at = pile.holds(way[0])
            for slot in way[1:]:
                at = None if at is None else pile.points(at)[slot]
            if at == number:
                return list(way)
    return None


class LedTest(unittest.TestCase):
    def setUp(self):
        """Hand 2 holds 0, hand 5 holds 1; 0 points at 1 by slot 1, 1 at 2 by slot 0, 2 at itself by slot 3."""
        self.pile = Pile()
        self.pile.make(2, 2)
        self.pile.make(5, 1)
        self.pile.make(0, 4)
        self.pile.put(2, 1, 5)
        self.pile.put(5, 0, 0)
        self.pile.put(0, 3, 0)
        self.pile.drop(0)

    def refused(self, kind, way):
        with self.subTest(way):
            before, handed_in = shown(self.pile), list(way)
            with self.assertRaises(kind):
                led(self.pile, way)
            self.assertEqual(shown(self.pile), before)
            self.assertEqual(way, handed_in)

    def test_ways(self):
        for way, number in (([2], 0), ([5], 1), ([2, 1], 1), ([2, 1, 0], 2), ([5, 0], 2), ([5, 0, 3, 3, 3], 2)):
            with self.subTest(way):
                self.assertEqual(led(self.pile, way), number)

    def test_a_way_far_longer_than_any_that_is_told(self):
        self.assertEqual(led(self.pile, [5, 0] + [3] * 5000), 2)

    def test_each_way_told_leads_to_its_box(self):
        for number in come_to(self.pile):
            self.assertEqual(led(self.pile, way_to(self.pile, number)), number)

    def test_no_such_hand(self):
        for bad in (-1, 8, HUGE, -HUGE):
            self.refused(NoHand, [bad])
            self.refused(NoHand, [bad, 0])
            self.refused(NoHand, [bad, 9, -1])

    def test_a_hand_that_holds_none(self):
        for hand in (0, 1, 7):
            self.refused(NoBox, [hand])
            self.refused(NoBox, [hand, 0])
            self.refused(NoBox, [hand, 9])
            self.refused(NoBox, [hand, -1])

    def test_no_such_slot(self):
        for bad in (-1, -2, 2, 6, HUGE, -HUGE):
            self.refused(NoSlot, [2, bad])
            self.refused(NoSlot, [2, bad, 0])
            self.refused(NoSlot, [2, bad, -1])
        for bad in (-1, -4, 4, 6):
            self.refused(NoSlot, [2, 1, 0, bad])
        self.refused(NoSlot, [5, 1])

    def test_a_slot_that_points_at_none(self):
        self.refused(NoBox, [2, 0])
        self.refused(NoBox, [2, 0, 0])
        self.refused(NoBox, [2, 0, 9])
        self.refused(NoBox, [2, 1, 0, 3, 2])

    def test_the_way_handed_in_stays(self):
        way = [2, 1, 0]
        led(self.pile, way)
        self.assertEqual(way, [2, 1, 0])


if __name__ == "__main__":
    unittest.main()
