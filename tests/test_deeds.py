"""Points 1 to 5: hands, boxes and slots, weights, the deeds and what they free."""

import unittest

from boxpile.pile import HANDS, MOST_ALIVE, MOST_SLOTS, Pile
from piles import chain, full_pile, shown


class EmptyPileTest(unittest.TestCase):
    def test_nothing_is_held_and_nothing_is_alive(self):
        pile = Pile()
        self.assertEqual([pile.holds(hand) for hand in range(HANDS)], [None] * 8)
        self.assertEqual(pile.alive(), [])
        self.assertEqual(pile.suspects(), [])

    def test_deeds_with_hands_that_hold_none(self):
        pile = Pile()
        self.assertEqual(pile.drop(7), [])
        self.assertEqual(pile.hold(0, 7), [])
        self.assertEqual(pile.hold(3, 3), [])
        self.assertEqual(shown(pile), shown(Pile()))


class MakeTest(unittest.TestCase):
    def test_numbers_rise_from_nought(self):
        pile = Pile()
        for hand in range(HANDS):
            self.assertEqual(pile.make(hand, hand % 7), [])
            self.assertEqual(pile.holds(hand), hand)
        self.assertEqual(pile.alive(), list(range(HANDS)))

    def test_a_new_box_has_so_many_empty_slots_and_weighs_one(self):
        pile = Pile()
        for size in range(MOST_SLOTS + 1):
            pile.make(size, size)
            self.assertEqual(pile.points(size), [None] * size)
            self.assertEqual(pile.weighs(size), 1)

    def test_the_box_that_the_hand_held_is_let_go(self):
        pile = Pile()
        pile.make(0, 0)
        self.assertEqual(pile.make(0, 0), [0])
        self.assertEqual(pile.alive(), [1])
        pile.hold(1, 0)
        self.assertEqual(pile.make(0, 0), [])
        self.assertEqual((pile.alive(), pile.suspects()), ([1, 2], [1]))

    def test_a_number_never_comes_again(self):
        pile = Pile()
        for number in range(150):
            pile.make(5, 1)
            self.assertEqual(pile.holds(5), number)
            self.assertEqual(pile.drop(5), [number])
        self.assertEqual(pile.alive(), [])

    def test_sixty_boxes_are_alive_at_once_and_more_come_when_some_are_freed(self):
        pile = full_pile()
        self.assertEqual(pile.alive(), list(range(MOST_ALIVE)))
        self.assertEqual(pile.holds(0), 59)
        pile.take(1, 0, 0)
        self.assertEqual(pile.drop(0), [59])
        self.assertEqual(pile.make(0, 6), [])
        self.assertEqual(pile.holds(0), 60)
        self.assertEqual(pile.alive(), list(range(59)) + [60])


class HoldTest(unittest.TestCase):
    def test_two_hands_hold_one_box(self):
        pile = Pile()
        pile.make(0, 2)
        self.assertEqual(pile.hold(7, 0), [])
        self.assertEqual((pile.holds(0), pile.holds(7)), (0, 0))
        self.assertEqual(pile.weighs(0), 2)

    def test_the_old_box_is_freed(self):
        pile = Pile()
        pile.make(0, 2)
        pile.make(1, 2)
        self.assertEqual(pile.hold(0, 1), [0])
        self.assertEqual(pile.weighs(1), 2)

    def test_from_a_hand_that_holds_none(self):
        pile = Pile()
        pile.make(0, 0)
        self.assertEqual(pile.hold(0, 1), [0])
        self.assertIsNone(pile.holds(0))

    def test_a_hand_that_holds_itself_frees_nothing(self):
        pile = Pile()
        pile.make(2, 1)
        self.assertEqual(pile.hold(2, 2), [])
        self.assertEqual((pile.holds(2), pile.weighs(0)), (0, 1))
        self.assertEqual(pile.suspects(), [0])


class DropTest(unittest.TestCase):
    def test_the_last_hand_frees(self):
        pile = Pile()
        pile.make(0, 0)
        pile.hold(1, 0)
        self.assertEqual(pile.drop(0), [])
        self.assertEqual(pile.weighs(0), 1)
        self.assertEqual(pile.drop(1), [0])
        self.assertEqual(pile.drop(1), [])

    def test_a_box_in_a_slot_stays(self):
        pile = Pile()
        pile.make(0, 1)
        pile.make(1, 0)
        pile.put(0, 0, 1)
        self.assertEqual(pile.drop(1), [])
        self.assertEqual(pile.points(0), [1])
        self.assertEqual(pile.drop(0), [0, 1])


class PutAndEmptyTest(unittest.TestCase):
    def setUp(self):
        self.pile = Pile()
        self.pile.make(0, 6)
        self.pile.make(1, 0)

    def test_each_slot_counts_by_itself(self):
        for slot in range(6):
            self.assertEqual(self.pile.put(0, slot, 1), [])
            self.assertEqual(self.pile.weighs(1), slot + 2)
        self.assertEqual(self.pile.points(0), [1] * 6)
        self.assertEqual(self.pile.drop(1), [])
        for slot in range(5):
            self.assertEqual(self.pile.empty(0, slot), [])
            self.assertEqual(self.pile.weighs(1), 5 - slot)
        self.assertEqual(self.pile.empty(0, 5), [1])
        self.assertEqual(self.pile.points(0), [None] * 6)

    def test_the_other_slots_stay_as_they_were(self):
        self.pile.put(0, 2, 1)
        self.pile.put(0, 5, 0)
        self.assertEqual(self.pile.points(0), [None, None, 1, None, None, 0])
        self.pile.empty(0, 2)
        self.assertEqual(self.pile.points(0), [None, None, None, None, None, 0])

    def test_put_lets_go_what_the_slot_pointed_at(self):
        self.pile.put(0, 3, 1)
        self.pile.make(1, 0)
        self.assertEqual(self.pile.put(0, 3, 1), [1])
        self.assertEqual(self.pile.points(0)[3], 2)
        self.assertEqual(self.pile.weighs(2), 2)

    def test_put_from_a_hand_that_holds_none_empties_the_slot(self):
        self.pile.put(0, 3, 1)
        self.pile.drop(1)
        self.assertEqual(self.pile.put(0, 3, 6), [1])
        self.assertEqual(self.pile.points(0), [None] * 6)
        self.assertEqual(self.pile.put(0, 3, 6), [])

    def test_put_what_the_slot_points_at_frees_nothing(self):
        self.pile.put(0, 0, 1)
        before = self.pile.weighs(1)
        self.assertEqual(self.pile.put(0, 0, 1), [])
        self.assertEqual(self.pile.weighs(1), before)
        self.assertEqual(self.pile.suspects(), [1])

    def test_empty_of_an_empty_slot(self):
        before = shown(self.pile)
        self.assertEqual(self.pile.empty(0, 4), [])
        self.assertEqual(shown(self.pile), before)

    def test_a_box_that_points_at_itself(self):
        self.assertEqual(self.pile.put(0, 0, 0), [])
        self.assertEqual(self.pile.put(0, 1, 0), [])
        self.assertEqual(self.pile.weighs(0), 3)
        self.assertEqual(self.pile.empty(0, 0), [])
        self.assertEqual(self.pile.weighs(0), 2)
        self.assertEqual(self.pile.drop(0), [])
        self.assertEqual(self.pile.alive(), [0, 1])
        self.assertEqual(self.pile.weighs(0), 1)


class TakeTest(unittest.TestCase):
    def setUp(self):
        self.pile = Pile()
        self.pile.make(0, 2)
        self.pile.make(1, 1)
        self.pile.put(0, 1, 1)

    def test_what_the_slot_points_at(self):
        self.assertEqual(self.pile.take(7, 0, 1), [])
        self.assertEqual(self.pile.holds(7), 1)
        self.assertEqual(self.pile.weighs(1), 3)

    def test_an_empty_slot_gives_none(self):
        self.assertEqual(self.pile.take(1, 0, 0), [])
        self.assertIsNone(self.pile.holds(1))
        self.assertEqual(self.pile.weighs(1), 1)

    def test_the_old_box_is_freed(self):
        self.pile.make(5, 0)
        self.assertEqual(self.pile.take(5, 0, 1), [2])
        self.assertEqual(self.pile.holds(5), 1)

    def test_into_the_hand_whose_box_has_the_slot(self):
        self.pile.drop(1)
        self.assertEqual(self.pile.take(0, 0, 1), [0])
        self.assertEqual(self.pile.holds(0), 1)
        self.assertEqual((self.pile.alive(), self.pile.weighs(1)), ([1], 1))
        self.assertEqual(self.pile.suspects(), [1])

    def test_an_empty_slot_into_the_hand_whose_box_has_it(self):
        self.assertEqual(self.pile.take(0, 0, 0), [0])
        self.assertIsNone(self.pile.holds(0))
        self.assertEqual(self.pile.weighs(1), 1)

    def test_what_the_hand_holds_already(self):
        self.assertEqual(self.pile.take(1, 0, 1), [])
        self.assertEqual((self.pile.holds(1), self.pile.weighs(1)), (1, 2))
        self.assertEqual(self.pile.suspects(), [1])

    def test_a_ring_of_one_into_its_own_hand(self):
        self.pile.put(1, 0, 1)
        before = self.pile.weighs(1)
        self.assertEqual(self.pile.take(1, 1, 0), [])
        self.assertEqual((self.pile.holds(1), self.pile.weighs(1)), (1, before))


class FreedOrderTest(unittest.TestCase):
    def test_slots_in_their_order(self):
        pile = Pile()
        pile.make(0, 6)
        for slot in (4, 0, 5, 2):
            pile.make(1, 0)
            pile.put(0, slot, 1)
        pile.drop(1)
        self.assertEqual(pile.drop(0), [0, 2, 4, 1, 3])

    def test_each_box_before_what_hangs_on_an_earlier_one(self):
        """0 points at 1 and 2, 1 at 3 and 4, 2 at 5 and 6: breadth first, not depth first."""
        pile = Pile()
        for hand in range(7):
            pile.make(hand, 2)
        for hand, slot, other in ((0, 0, 1), (0, 1, 2), (1, 0, 3), (1, 1, 4), (2, 0, 5), (2, 1, 6)):
            pile.put(hand, slot, other)
        for hand in range(1, 7):
            self.assertEqual(pile.drop(hand), [])
        self.assertEqual(pile.drop(0), [0, 1, 2, 3, 4, 5, 6])

    def test_the_last_pointer_at_a_box_tells_its_place(self):
        """0 points at 1, 2 and 3; 3 points at 1, too: so 1 falls to 0 behind 2 and 3."""
        pile = Pile()
        for hand in range(4):
            pile.make(hand, 3)
        for slot in range(3):
            pile.put(0, slot, slot + 1)
        pile.put(3, 0, 1)
        for hand in (3, 2, 1):
            pile.drop(hand)
        self.assertEqual(pile.drop(0), [0, 2, 3, 1])

    def test_a_box_pointed_at_by_several_slots_of_one_box(self):
        """0 points at 1, 2 and 1 again: 1 falls to 0 behind 2, and is told once."""
        pile = Pile()
        pile.make(0, 3)
        pile.make(1, 0)
        pile.make(2, 0)
        pile.put(0, 0, 1)
        pile.put(0, 1, 2)
        pile.put(0, 2, 1)
        pile.drop(1)
        pile.drop(2)
        self.assertEqual(pile.drop(0), [0, 2, 1])

    def test_freeing_stops_at_what_is_pointed_at_yet(self):
        pile = chain(5)
        pile.take(3, 0, 0)
        pile.take(3, 3, 0)
        self.assertEqual(pile.drop(0), [4, 3])
        self.assertEqual(pile.alive(), [0, 1, 2])
        self.assertEqual(pile.weighs(2), 1)
        self.assertEqual(pile.drop(3), [2, 1, 0])

    def test_a_long_chain(self):
        pile = full_pile()
        self.assertEqual(pile.drop(0), list(range(59, -1, -1)))
        self.assertEqual(shown(pile), shown(Pile()))

    def test_every_deed_can_free_a_chain(self):
        deeds = {
            "make": (lambda pile: pile.make(0, 1), [2, 1, 0]),
            "hold": (lambda pile: pile.hold(0, 7), [2, 1, 0]),
            "drop": (lambda pile: pile.drop(0), [2, 1, 0]),
            "put": (lambda pile: pile.put(0, 0, 7), [1, 0]),
            "empty": (lambda pile: pile.empty(0, 0), [1, 0]),
        }
        for name, (deed, freed) in deeds.items():
            with self.subTest(name):
                self.assertEqual(deed(chain(3)), freed)

    def test_take_can_free_a_chain(self):
        pile = chain(3)
        pile.make(1, 1)
        self.assertEqual(pile.take(0, 1, 0), [2, 1, 0])

    def test_rings_and_what_hangs_on_them_stay_alive(self):
        pile = Pile()
        for hand in range(4):
            pile.make(hand, 2)
        for hand, slot, other in ((0, 0, 1), (1, 0, 2), (2, 0, 0), (1, 1, 3)):
            pile.put(hand, slot, other)
        for hand in range(4):
            self.assertEqual(pile.drop(hand), [])
        self.assertEqual(pile.alive(), [0, 1, 2, 3])
        self.assertEqual([pile.weighs(number) for number in range(4)], [1, 1, 1, 1])
        pile.make(0, 0)
        self.assertEqual(pile.alive(), [0, 1, 2, 3, 4])

    def test_a_ring_that_is_opened_is_freed(self):
        pile = Pile()
        pile.make(0, 1)
        pile.make(1, 1)
        pile.put(0, 0, 1)
        pile.put(1, 0, 0)
        pile.drop(1)
        self.assertEqual(pile.empty(0, 0), [1])
        self.assertEqual((pile.weighs(0), pile.points(0)), (1, [None]))


class OwnListsTest(unittest.TestCase):
    def test_piles_know_nothing_of_one_another(self):
        one, other = Pile(), Pile()
        one.make(0, 2)
        one.put(0, 0, 0)
        self.assertEqual(shown(other), shown(Pile()))
        other.make(3, 1)
        self.assertEqual(other.alive(), [0])
        self.assertEqual(one.points(0), [0, None])

    def test_every_list_given_back_is_a_new_one(self):
        pile = chain(3)
        pile.hold(0, 0)
        before = shown(pile)
        for ask in (lambda: pile.points(2), pile.alive, pile.suspects):
            told = ask()
            self.assertIsNot(told, ask())
            told.append(99)
            told[0] = 98
            self.assertEqual(shown(pile), before)

    def test_the_lists_of_freed_numbers_are_new_ones(self):
        pile = Pile()
        pile.drop(0).append(7)
        self.assertEqual(pile.drop(0), [])
        chain(3, pile)
        freed = pile.drop(0)
        freed.clear()
        self.assertEqual(pile.make(0, 0), [])
        self.assertEqual(pile.drop(0), [3])
        self.assertEqual(freed, [])


if __name__ == "__main__":
    unittest.main()
