"""Point 6: which boxes are suspects."""

import unittest

from boxpile.pile import Pile
from piles import chain


class SuspectsTest(unittest.TestCase):
    def setUp(self):
        self.pile = Pile()
        self.pile.make(0, 2)

    def test_a_new_box_is_none(self):
        self.assertEqual(self.pile.suspects(), [])

    def test_a_box_that_is_pointed_at_anew_becomes_none(self):
        self.pile.hold(1, 0)
        self.pile.put(0, 0, 1)
        self.pile.take(2, 0, 0)
        self.assertEqual(self.pile.suspects(), [])

    def test_a_box_that_is_pointed_at_anew_stays_one(self):
        self.pile.hold(1, 0)
        self.pile.drop(1)
        self.assertEqual(self.pile.suspects(), [0])
        self.pile.hold(1, 0)
        self.pile.put(0, 1, 0)
        self.assertEqual(self.pile.suspects(), [0])

    def test_each_deed_that_lets_go_makes_one(self):
        deeds = {
            "make": lambda: self.pile.make(1, 0),
            "hold": lambda: self.pile.hold(1, 7),
            "drop": lambda: self.pile.drop(1),
            "put": lambda: self.pile.put(0, 0, 7),
            "empty": lambda: self.pile.empty(0, 0),
            "take": lambda: self.pile.take(1, 0, 1),
        }
        for name, deed in deeds.items():
            with self.subTest(name):
                self.setUp()
                self.pile.hold(1, 0)
                self.pile.put(0, 0, 0)
                deed()
                self.assertEqual(self.pile.suspects(), [0])

    def test_setting_a_pointer_to_what_it_was_makes_one(self):
        self.pile.make(1, 0)
        self.pile.put(0, 0, 1)
        self.assertEqual(self.pile.suspects(), [])
        self.pile.put(0, 0, 1)
        self.assertEqual(self.pile.suspects(), [1])
        self.pile.hold(0, 0)
        self.assertEqual(self.pile.suspects(), [0, 1])

    def test_a_box_let_go_by_a_freed_one_is_a_suspect(self):
        self.pile.make(1, 0)
        self.pile.put(0, 0, 1)
        self.assertEqual(self.pile.drop(0), [0])
        self.assertEqual(self.pile.suspects(), [1])

    def test_a_freed_box_is_none(self):
        self.assertEqual(self.pile.drop(0), [0])
        self.assertEqual(self.pile.suspects(), [])

    def test_a_suspect_that_is_freed_later_is_none_any_more(self):
        self.pile.hold(1, 0)
        self.pile.drop(0)
        self.assertEqual(self.pile.suspects(), [0])
        self.assertEqual(self.pile.drop(1), [0])
        self.assertEqual(self.pile.suspects(), [])
        self.pile.make(0, 0)
        self.assertEqual(self.pile.suspects(), [])

    def test_one_that_is_let_go_twice_in_a_deed_and_freed_by_it(self):
        self.pile.make(1, 0)
        self.pile.put(0, 0, 1)
        self.pile.put(0, 1, 1)
        self.pile.drop(1)
        self.assertEqual(self.pile.suspects(), [1])
        self.assertEqual(self.pile.drop(0), [0, 1])
        self.assertEqual(self.pile.suspects(), [])

    def test_they_rise_and_stay_through_other_deeds(self):
        pile = chain(12)
        before = pile.suspects()
        self.assertEqual(before, list(range(12)))
        pile.make(4, 1)
        pile.make(5, 1)
        self.assertEqual(pile.suspects(), before)
        pile.hold(5, 5)
        pile.hold(4, 4)
        self.assertEqual(pile.suspects(), before + [12, 13])

    def test_a_ring_keeps_its_suspects(self):
        self.pile.make(1, 1)
        self.pile.put(0, 0, 1)
        self.pile.put(1, 0, 0)
        self.pile.drop(1)
        self.pile.drop(0)
        self.pile.make(0, 0)
        self.pile.drop(0)
        self.assertEqual(self.pile.alive(), [0, 1])
        self.assertEqual(self.pile.suspects(), [0, 1])


if __name__ == "__main__":
    unittest.main()
