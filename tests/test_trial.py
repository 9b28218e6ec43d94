"""Points 7 and 8: what can be come to, trial numbers, and what a tidy frees and keeps."""

import unittest

from boxpile.errors import NoBox
from boxpile.pile import MOST_ALIVE, Pile
from boxpile.trial import reached, tidy, trials
from piles import HUGE, chain, full_pile, lost_ring, ring, shown


class ReachedTest(unittest.TestCase):
    def setUp(self):
        """1 points at 3 and 4, 0 at 3; 3 at 5; 2 at itself; 6 and 5 at none; each is in a hand."""
        self.pile = Pile()
        for hand in range(7):
            self.pile.make(hand, 2)
        for hand, slot, other in ((1, 0, 3), (1, 1, 4), (0, 1, 3), (3, 1, 5), (2, 0, 2)):
            self.pile.put(hand, slot, other)

    def test_one_box(self):
        for number, found in ((0, [0, 3, 5]), (1, [1, 3, 4, 5]), (2, [2]), (3, [3, 5]), (5, [5]), (6, [6])):
            with self.subTest(number):
                self.assertEqual(reached(self.pile, [number]), found)

    def test_several_boxes(self):
        self.assertEqual(reached(self.pile, [6, 3, 2]), [2, 3, 5, 6])
        self.assertEqual(reached(self.pile, [1, 0]), [0, 1, 3, 4, 5])

    def test_a_box_told_twice(self):
        self.assertEqual(reached(self.pile, [3, 3, 5, 3]), [3, 5])
        self.assertEqual(reached(self.pile, [2] * 1000), [2])

    def test_no_boxes(self):
        self.assertEqual(reached(self.pile, []), [])
        self.assertEqual(reached(Pile(), []), [])

    def test_several_slots_at_one_box(self):
        for slot in range(2):
            self.pile.put(6, slot, 2)
        self.assertEqual(reached(self.pile, [6]), [2, 6])

    def test_what_no_hand_comes_to(self):
        self.assertEqual(reached(lost_ring(3), [1]), [0, 1, 2])

    def test_long_chains_and_rings(self):
        self.assertEqual(reached(full_pile(), [59]), list(range(60)))
        self.assertEqual(reached(full_pile(), [30]), list(range(31)))
        self.assertEqual(reached(ring(MOST_ALIVE), [17]), list(range(60)))

    def test_boxes_that_are_not_alive(self):
        self.pile.drop(6)
        before = shown(self.pile)
        for bad in (6, 7, 60, -1, -2, HUGE, -HUGE):
            for numbers in ([bad], [bad, 0], [0, bad], [1, 1, bad, 2]):
                with self.subTest(numbers), self.assertRaises(NoBox):
                    reached(self.pile, numbers)
        self.assertEqual(shown(self.pile), before)
        with self.assertRaises(NoBox):
            reached(Pile(), [0])

    def test_the_list_handed_in_stays_and_the_one_given_back_is_new(self):
        numbers, before = [3, 0, 3], shown(self.pile)
        told = reached(self.pile, numbers)
        told.append(99)
        self.assertEqual(numbers, [3, 0, 3])
        self.assertEqual(reached(self.pile, numbers), [0, 3, 5])
        alone = [5]
        self.assertIsNot(reached(self.pile, alone), alone)
        self.assertEqual(shown(self.pile), before)


class TrialsTest(unittest.TestCase):
    def test_no_suspects(self):
        pile = Pile()
        self.assertEqual(trials(pile), [])
        pile.make(0, 1)
        pile.put(0, 0, 0)
        self.assertEqual(trials(pile), [])

    def test_a_lost_ring_weighs_nothing_on_trial(self):
        self.assertEqual(trials(lost_ring(3)), [(0, 0), (1, 0), (2, 0)])

    def test_a_ring_in_a_hand(self):
        self.assertEqual(trials(ring(3)), [(0, 1), (1, 0), (2, 0)])

    def test_each_hand_counts(self):
        pile = ring(2)
        for hand in (3, 4, 5):
            pile.hold(hand, 0)
        self.assertEqual(trials(pile), [(0, 4), (1, 0)])

    def test_each_slot_of_a_box_looked_at_counts_by_itself(self):
        """0 points at 1 with five slots, 1 at itself; both are in hands."""
        pile = Pile()
        pile.make(0, 6)
        pile.make(1, 2)
        for slot in (0, 1, 2, 4, 5):
            pile.put(0, slot, 1)
        pile.put(1, 1, 1)
        pile.hold(0, 0)
        self.assertEqual((pile.weighs(0), pile.weighs(1)), (1, 7))
        self.assertEqual(trials(pile), [(0, 1), (1, 1)])

    def test_slots_of_a_box_that_is_not_looked_at_count_from_without(self):
        """0 points at 1 with three slots; only 1 is a suspect."""
        pile = Pile()
        pile.make(0, 3)
        pile.make(1, 1)
        for slot in range(3):
            pile.put(0, slot, 1)
        pile.drop(1)
        self.assertEqual(pile.suspects(), [1])
        self.assertEqual(trials(pile), [(1, 3)])

    def test_what_hangs_on_a_suspect_is_looked_at(self):
        pile = Pile()
        for hand in range(3):
            pile.make(hand, 1)
        pile.put(2, 0, 1)
        pile.put(1, 0, 0)
        pile.hold(2, 2)
        self.assertEqual(pile.suspects(), [2])
        self.assertEqual(trials(pile), [(0, 1), (1, 1), (2, 1)])
        pile.drop(0)
        pile.drop(1)
        self.assertEqual(trials(pile), [(0, 0), (1, 0), (2, 1)])

    def test_rising_numbers_and_tuples(self):
        pile = chain(5)
        told = trials(pile)
        self.assertEqual(told, [(0, 0), (1, 0), (2, 0), (3, 0), (4, 1)])
        self.assertTrue(all(isinstance(pair, tuple) for pair in told))

    def test_a_new_list_and_nothing_changed(self):
        pile = lost_ring(4)
        before = shown(pile)
        trials(pile).append((7, 7))
        self.assertEqual(trials(pile), [(number, 0) for number in range(4)])
        self.assertEqual(shown(pile), before)

    def test_long_rings(self):
        self.assertEqual(trials(lost_ring(MOST_ALIVE)), [(number, 0) for number in range(60)])


class TidyFreesTest(unittest.TestCase):
    def test_rings_of_each_length(self):
        for length in (1, 2, 3, 17, MOST_ALIVE):
            with self.subTest(length):
                pile = lost_ring(length)
                self.assertEqual(pile.alive(), list(range(length)))
                self.assertEqual(tidy(pile), list(range(length)))
                self.assertEqual(shown(pile), shown(Pile()))

    def test_a_box_that_points_at_itself_by_all_slots(self):
        pile = Pile()
        pile.make(0, 6)
        for slot in range(6):
            pile.put(0, slot, 0)
        pile.drop(0)
        self.assertEqual(pile.weighs(0), 6)
        self.assertEqual(tidy(pile), [0])

    def test_what_hangs_on_a_ring(self):
        """A chain of 0, 1 and 2 hangs on the ring of 3 and 4."""
        pile = chain(3)
        pile.hold(7, 0)
        ring(2, pile)
        pile.put(0, 1, 7)
        pile.drop(7)
        pile.drop(0)
        self.assertEqual(tidy(pile), [0, 1, 2, 3, 4])

    def test_a_ring_that_hangs_on_a_ring(self):
        pile = ring(2)
        pile.hold(7, 0)
        ring(3, pile)
        pile.put(0, 1, 7)
        pile.drop(7)
        self.assertEqual(tidy(pile), [])
        pile.drop(0)
        self.assertEqual(tidy(pile), [0, 1, 2, 3, 4])

    def test_the_numbers_rise_whatever_the_ring_is(self):
        pile = Pile()
        for hand in range(6):
            pile.make(hand, 1)
        for hand, other in ((0, 4), (4, 2), (2, 5), (5, 1), (1, 3), (3, 0)):
            pile.put(hand, 0, other)
        for hand in (3, 0, 5, 2, 1, 4):
            pile.drop(hand)
        self.assertEqual(tidy(pile), [0, 1, 2, 3, 4, 5])

    def test_several_rings_at_once(self):
        pile = Pile()
        for length in (2, 1, 3):
            lost_ring(length, pile)
        self.assertEqual(tidy(pile), [0, 1, 2, 3, 4, 5])

    def test_freed_numbers_never_come_again_and_make_room(self):
        pile = lost_ring(MOST_ALIVE)
        tidy(pile)
        for number in range(60, 120):
            pile.make(0, 1)
            pile.put(0, 0, 0)
            self.assertEqual(pile.holds(0), number)
        self.assertEqual(tidy(pile), list(range(60, 119)))

    def test_counting_goes_on_behind_a_tidy(self):
        pile = chain(3)
        lost_ring(2, pile)
        tidy(pile)
        chain(3, pile)
        self.assertEqual(pile.drop(0), [7, 6, 5])


class TidyKeepsTest(unittest.TestCase):
    def test_no_suspects(self):
        self.assertEqual(tidy(Pile()), [])
        pile = Pile()
        pile.make(0, 1)
        pile.make(1, 1)
        pile.put(0, 0, 1)
        pile.put(1, 0, 0)
        before = shown(pile)
        self.assertEqual(tidy(pile), [])
        self.assertEqual(shown(pile), before)

    def test_a_ring_that_a_hand_holds(self):
        for length in (1, 2, 3, MOST_ALIVE):
            with self.subTest(length):
                pile = ring(length)
                hands, boxes, _ = shown(pile)
                self.assertEqual(tidy(pile), [])
                self.assertEqual(shown(pile), (hands, boxes, []))

    def test_a_ring_that_a_hand_comes_to_by_a_box_from_without(self):
        """Box 3 is no suspect, and points at the ring."""
        pile = ring(3)
        pile.make(6, 1)
        pile.put(6, 0, 0)
        pile.drop(0)
        self.assertEqual(pile.suspects(), [0, 1, 2])
        self.assertEqual(trials(pile), [(0, 1), (1, 0), (2, 0)])
        self.assertEqual(tidy(pile), [])
        self.assertEqual(pile.alive(), [0, 1, 2, 3])
        self.assertEqual(pile.drop(6), [3])
        self.assertEqual(tidy(pile), [0, 1, 2])

    def test_kept_far_behind_the_one_box_in_a_hand(self):
        """Hand 0 holds the newest box of a chain whose boxes are suspects, all but it of trial number 0."""
        pile = full_pile()
        pile.hold(0, 0)
        self.assertEqual(pile.suspects(), list(range(60)))
        self.assertEqual(trials(pile), [(number, 0) for number in range(59)] + [(59, 1)])
        self.assertEqual(tidy(pile), [])
        self.assertEqual((pile.alive(), pile.suspects()), (list(range(60)), []))

    def test_suspects_that_are_kept_are_none_behind_it(self):
        pile = chain(4)
        self.assertEqual(pile.suspects(), [0, 1, 2, 3])
        self.assertEqual(tidy(pile), [])
        self.assertEqual(pile.suspects(), [])
        pile.take(0, 0, 0)
        self.assertEqual(pile.suspects(), [2])

    def test_one_ring_is_kept_and_one_is_freed(self):
        pile = lost_ring(2)
        ring(2, pile)
        self.assertEqual(tidy(pile), [0, 1])
        self.assertEqual(pile.alive(), [2, 3])

    def test_a_part_of_what_hangs_together_is_kept(self):
        """The ring of 1, 2 and 3 points at 0, which a hand holds."""
        pile = Pile()
        pile.make(6, 0)
        ring(3, pile)
        pile.put(0, 1, 6)
        pile.drop(0)
        self.assertEqual(tidy(pile), [1, 2, 3])
        self.assertEqual((pile.alive(), pile.holds(6)), ([0], 0))

    def test_what_stays_weighs_less_and_is_no_suspect_for_it(self):
        """A ring of one points with four slots at 0, which points at 1, and with one slot at 1."""
        pile = Pile()
        pile.make(0, 1)
        pile.make(1, 0)
        pile.put(0, 0, 1)
        pile.make(2, 6)
        for slot, other in enumerate((2, 0, 0, 1, 0, 0)):
            pile.put(2, slot, other)
        pile.drop(2)
        self.assertEqual([pile.weighs(number) for number in range(3)], [5, 3, 1])
        self.assertEqual(tidy(pile), [2])
        self.assertEqual([pile.weighs(number) for number in range(2)], [1, 2])
        self.assertEqual(pile.suspects(), [])
        self.assertEqual(pile.drop(1), [])
        self.assertEqual(pile.drop(0), [0, 1])

    def test_a_second_tidy(self):
        pile = lost_ring(3)
        ring(2, pile)
        self.assertEqual(tidy(pile), [0, 1, 2])
        before = shown(pile)
        self.assertEqual(trials(pile), [])
        self.assertEqual(tidy(pile), [])
        self.assertEqual(shown(pile), before)

    def test_a_ring_lost_behind_a_tidy_is_freed_by_the_next(self):
        pile = ring(3)
        tidy(pile)
        self.assertEqual(pile.suspects(), [])
        pile.drop(0)
        self.assertEqual(pile.suspects(), [0])
        self.assertEqual(trials(pile), [(0, 0), (1, 0), (2, 0)])
        self.assertEqual(tidy(pile), [0, 1, 2])

    def test_each_list_given_back_is_a_new_one(self):
        pile = lost_ring(2)
        tidy(pile).append(9)
        told = tidy(pile)
        self.assertEqual(told, [])
        told.append(9)
        self.assertEqual(tidy(pile), [])
        self.assertEqual(shown(pile), shown(Pile()))

    def test_piles_know_nothing_of_one_another(self):
        one, other = lost_ring(3), lost_ring(3)
        before = shown(other)
        tidy(one)
        self.assertEqual(shown(other), before)
        self.assertEqual(trials(other), [(0, 0), (1, 0), (2, 0)])
        self.assertEqual(tidy(other), [0, 1, 2])


if __name__ == "__main__":
    unittest.main()
