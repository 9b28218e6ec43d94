"""The names, arguments and values that the interface lists."""

import inspect
import unittest

from boxpile import errors, pile
from boxpile.pile import Pile

METHODS = {
    "make": ["self", "hand", "size"],
    "hold": ["self", "hand", "other"],
    "drop": ["self", "hand"],
    "put": ["self", "hand", "slot", "other"],
    "empty": ["self", "hand", "slot"],
    "take": ["self", "hand", "other", "slot"],
    "holds": ["self", "hand"],
    "points": ["self", "number"],
    "weighs": ["self", "number"],
    "alive": ["self"],
    "suspects": ["self"],
}


class ErrorsTest(unittest.TestCase):
    def test_any_refusal_is_a_value_error(self):
        self.assertEqual(errors.PileError.__bases__, (ValueError,))

    def test_each_refusal_stands_straight_under_pile_error(self):
        for name in ("NoHand", "NoSize", "Full", "NoBox", "NoSlot", "NoDeed"):
            with self.subTest(name):
                kind = getattr(errors, name)
                self.assertEqual(kind.__bases__, (errors.PileError,))
                self.assertEqual(kind.__module__, "boxpile.errors")

    def test_a_refusal_is_caught_by_its_bases(self):
        for kind in (errors.NoHand, errors.PileError, ValueError):
            with self.subTest(kind), self.assertRaises(kind):
                Pile().drop(8)


class PileTest(unittest.TestCase):
    def test_the_limits(self):
        self.assertEqual((pile.HANDS, pile.MOST_SLOTS, pile.MOST_ALIVE), (8, 6, 60))

    def test_the_class_has_each_method_itself(self):
        self.assertEqual(Pile.__module__, "boxpile.pile")
        for name, arguments in METHODS.items():
            with self.subTest(name):
                self.assertIn(name, vars(Pile))
                told = inspect.signature(vars(Pile)[name])
                self.assertEqual(list(told.parameters), arguments)

    def test_a_pile_takes_no_arguments(self):
        self.assertEqual(list(inspect.signature(Pile).parameters), [])

    def test_arguments_by_name(self):
        boxes = Pile()
        boxes.make(hand=0, size=2)
        boxes.hold(hand=1, other=0)
        boxes.put(hand=0, slot=1, other=1)
        boxes.take(hand=2, other=0, slot=1)
        boxes.empty(hand=0, slot=1)
        boxes.drop(hand=2)
        self.assertEqual(boxes.holds(hand=1), 0)
        self.assertEqual(boxes.points(number=0), [None, None])
        self.assertEqual(boxes.weighs(number=0), 2)


if __name__ == "__main__":
    unittest.main()
