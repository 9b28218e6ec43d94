"""The names, arguments and values that the interface lists."""

import inspect
import unittest

from boxpile import errors, notes, pile, trial, ways
from boxpile.pile import Pile

METHODS = {
    "make": ["self", "hand", "size"],
    "hold": ["self", "hand", "other"],
    "drop": ["self", "hand"],
    "put": ["self", "hand", "slot", "other"],
    "empty": ["self", "hand", "slot"],
    "take": ["self", "hand", "other", "slot"],
    "holds": ["self", "hand"],
    "points": ["self", "number"],
    "weighs": ["self", "number"],
    "alive": ["self"],
    "suspects": ["self"],
}
FUNCTIONS = {
    trial: {"reached": ["pile", "numbers"], "trials": ["pile"], "tidy": ["pile"]},
    ways: {"come_to": ["pile"], "way_to": ["pile", "number"], "led": ["pile", "way"]},
    notes: {"shown": ["deed"], "read": ["line"], "done": ["pile", "deed"], "played": ["lines"]},
}


class ErrorsTest(unittest.TestCase):
    def test_any_refusal_is_a_value_error(self):
        self.assertEqual(errors.PileError.__bases__, (ValueError,))

    def test_each_refusal_stands_straight_under_pile_error(self):
        for name in ("NoHand", "NoSize", "Full", "NoBox", "NoSlot", "NoDeed"):
            with self.subTest(name):
                kind = getattr(errors, name)
                self.assertEqual(kind.__bases__, (errors.PileError,))
                self.assertEqual(kind.__module__, "boxpile.errors")

    def test_a_refusal_is_caught_by_its_bases(self):
        for kind in (errors.NoHand, errors.PileError, ValueError):
            with self.subTest(kind), self.assertRaises(kind):
                Pile().drop(8)


class PileTest(unittest.TestCase):
    def test_the_limits(self):
        self.assertEqual((pile.HANDS, pile.MOST_SLOTS, pile.MOST_ALIVE), (8, 6, 60))

    def test_the_class_has_each_method_itself(self):
        self.assertEqual(Pile.__module__, "boxpile.pile")
        for name, arguments in METHODS.items():
            with self.subTest(name):
                self.assertIn(name, vars(Pile))
                told = inspect.signature(vars(Pile)[name])
                self.assertEqual(list(told.parameters), arguments)

    def test_a_pile_takes_no_arguments(self):
        self.assertEqual(list(inspect.signature(Pile).parameters), [])

    def test_arguments_by_name(self):
        boxes = Pile()
        boxes.make(hand=0, size=2)
        boxes.hold(hand=1, other=0)
        boxes.put(hand=0, slot=1, other=1)
        boxes.take(hand=2, other=0, slot=1)
        boxes.empty(hand=0, slot=1)
        boxes.drop(hand=2)
        self.assertEqual(boxes.holds(hand=1), 0)
        self.assertEqual(boxes.points(number=0), [None, None])
        self.assertEqual(boxes.weighs(number=0), 2)


class FunctionsTest(unittest.TestCase):
    def test_each_function_is_defined_in_its_file(self):
        for module, functions in FUNCTIONS.items():
            for name, arguments in functions.items():
                with self.subTest(name):
                    function = getattr(module, name)
                    self.assertTrue(inspect.isfunction(function))
                    self.assertEqual(function.__module__, module.__name__)
                    self.assertEqual(list(inspect.signature(function).parameters), arguments)

    def test_arguments_by_name(self):
        boxes = Pile()
        self.assertEqual(notes.done(pile=boxes, deed=notes.read(line="make 0 1")), [])
        self.assertEqual(notes.shown(deed=("tidy",)), "tidy")
        self.assertEqual(notes.played(lines=["tidy"]), ["frees none"])
        self.assertEqual(trial.reached(pile=boxes, numbers=[0]), [0])
        self.assertEqual(trial.trials(pile=boxes), [])
        self.assertEqual(trial.tidy(pile=boxes), [])
        self.assertEqual(ways.come_to(pile=boxes), [0])
        self.assertEqual(ways.way_to(pile=boxes, number=0), [0])
        self.assertEqual(ways.led(pile=boxes, way=[0]), 0)


if __name__ == "__main__":
    unittest.main()
