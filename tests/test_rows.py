"""Long rows of deeds, beside a slow pile that counts all pointers anew at each step."""

import random
import unittest

from boxpile.errors import Full, NoBox, NoHand, NoSize, NoSlot, PileError
from boxpile.pile import Pile
from piles import shown


class SlowPile:
    """Keeps nothing but places (a hand, or a slot of a box) and the numbers that they point at."""

    def __init__(self):
        self.places = {("hand", hand): None for hand in range(8)}
        self.sizes = {}
        self.alive = []
        self.suspects = set()
        self.made = 0

    def weight(self, number):
        return list(self.places.values()).count(number)

    def points(self, number):
        return [self.places[number, slot] for slot in range(self.sizes[number])]

    def shown(self):
        return (
            [self.places["hand", hand] for hand in range(8)],
            [(number, self.points(number), self.weight(number)) for number in self.alive],
            sorted(self.suspects),
        )

    def refusal(self, word, numbers):
        hands = {"make": 1, "hold": 2, "drop": 1, "put": 2, "empty": 1, "take": 2}[word]
        told = [numbers[0], numbers[2]] if word == "put" else list(numbers[:hands])
        if any(hand not in range(8) for hand in told):
            return NoHand
        if word == "make":
            if numbers[1] not in range(7):
                return NoSize
            return Full if len(self.alive) == 60 else None
        if word in ("put", "empty", "take"):
            hand, slot = (numbers[1], numbers[2]) if word == "take" else numbers[:2]
            box = self.places["hand", hand]
            if box is None:
                return NoBox
            if slot not in range(self.sizes[box]):
                return NoSlot
        return None

    def do(self, word, numbers):
        hand = ("hand", numbers[0])
        if word == "make":
            self.alive.append(self.made)
            self.sizes[self.made] = numbers[1]
            self.places.update({(self.made, slot): None for slot in range(numbers[1])})
            self.made += 1
            return self.change(hand, self.made - 1)
        if word == "hold":
            return self.change(hand, self.places["hand", numbers[1]])
        if word == "drop":
            return self.change(hand, None)
        if word == "put":
            return self.change((self.places[hand], numbers[1]), self.places["hand", numbers[2]])
        if word == "empty":
            return self.change((self.places[hand], numbers[1]), None)
        box = self.places["hand", numbers[1]]
        return self.change(hand, self.places[box, numbers[2]])

    def change(self, place, number):
        self.places["new"] = number
        old = self.places.pop(place)
        freed = self.let_go([], old)
        for box in freed:
            for slot in range(self.sizes[box]):
                self.let_go(freed, self.places.pop((box, slot)))
        self.places[place] = self.places.pop("new")
        return freed

    def let_go(self, freed, number):
        if number is not None and self.weight(number):
            self.suspects.add(number)
        elif number is not None:
            self.suspects.discard(number)
            self.alive.remove(number)
            freed.append(number)
        return freed


def single(chance):
    """One deed of any kind; now and then with a hand, a size or a slot that there is not."""
    word = chance.choice(["make", "hold", "drop", "put", "put", "put", "empty", "take"])
    hand, other = chance.randint(0, 7), chance.randint(0, 7)
    slot = chance.choice([0, 0, 1, 1, 2, 3, 4, 5])
    if chance.random() < 0.03:
        hand = chance.choice([-1, 8])
    if chance.random() < 0.03:
        slot = chance.choice([-1, 6, 7])
    numbers = {
        "make": (hand, chance.choice([0, 1, 2, 2, 3, 6, 7])), "hold": (hand, other), "drop": (hand,),
        "put": (hand, slot, other), "empty": (hand, slot), "take": (hand, other, slot),
    }
    return [(word, numbers[word])]


def joined(chance):
    """A new box over what two hands hold, which then hangs on the one hand: so chains and trees grow."""
    left, right = chance.sample(range(7), 2)
    slots = chance.sample(range(4), 3)
    return [
        ("make", (7, 4)), ("put", (7, slots[0], left)), ("put", (7, slots[1], right)),
        ("put", (7, slots[2], chance.choice([left, right]))),
        ("drop", (right,)), ("hold", (left, 7)), ("drop", (7,)),
    ]


def ring(chance):
    """A box that points at itself and at what a hand holds, and that no hand comes to any more."""
    return [("make", (7, 2)), ("put", (7, 0, 7)), ("put", (7, 1, chance.randint(0, 6))), ("drop", (7,))]


def row(chance, kinds):
    """A row of some hundred deeds, of these kinds."""
    return [deed for _ in range(100) for deed in chance.choice(kinds)(chance)]


# Rows in which much is freed, rows in which much hangs together, and rows that fill the pile.
ROWS = [[single], [single, single, joined], [single, joined, joined, joined], [single, joined, ring]]


class RowsTest(unittest.TestCase):
    def step(self, pile, slow, word, numbers):
        refusal = slow.refusal(word, numbers)
        if refusal is None:
            freed = slow.do(word, numbers)
            self.assertEqual(getattr(pile, word)(*numbers), freed)
        else:
            with self.assertRaises(PileError) as caught:
                getattr(pile, word)(*numbers)
            self.assertIs(caught.exception.__class__, refusal)
        self.assertEqual(shown(pile), slow.shown())
        return refusal

    def check_weights(self, pile):
        """Point 2, straight from what the pile tells of its hands and slots."""
        pointers = [pile.holds(hand) for hand in range(8)]
        for number in pile.alive():
            pointers.extend(pile.points(number))
        for number in pile.alive():
            self.assertEqual(pile.weighs(number), pointers.count(number))
            self.assertGreaterEqual(pile.weighs(number), 1)
        alive = set(pile.alive()) | {None}
        self.assertLessEqual(set(pointers), alive)

    def test_rows_of_deeds(self):
        refusals, most_freed = set(), 0
        for seed in range(24):
            pile, slow = Pile(), SlowPile()
            with self.subTest(seed=seed):
                for word, numbers in row(random.Random(seed), ROWS[seed % 4]):
                    before = len(pile.alive())
                    refusals.add(self.step(pile, slow, word, numbers))
                    self.check_weights(pile)
                    most_freed = max(most_freed, before - len(pile.alive()))
        # The rows are worth their while only if they come to each refusal and free much at once.
        self.assertEqual(refusals, {None, NoHand, NoSize, Full, NoBox, NoSlot})
        self.assertGreater(most_freed, 5)


if __name__ == "__main__":
    unittest.main()
