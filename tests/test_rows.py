"""Points 2, 6 and 8: long rows of deeds of all seven words, beside a slow pile that counts anew at each step."""

import random
import unittest

from boxpile.errors import Full, NoBox, NoHand, NoSize, NoSlot, PileError
from boxpile.notes import done, played, shown as written
from boxpile.pile import Pile
from boxpile.trial import reached, trials
from boxpile.ways import come_to, led, way_to
from piles import come_to_by_slots, pointers, shown


class SlowPile:
    """Keeps nothing but places (a hand, or a slot of a box) and the numbers that they point at."""

    def __init__(self):
        self.places = {("hand", hand): None for hand in range(8)}
        self.sizes = {}
        self.alive = []
        self.suspects = set()
        self.made = 0

    def weight(self, number):
        return list(self.places.values()).count(number)

    def points(self, number):
        return [self.places[number, slot] for slot in range(self.sizes[number])]

    def shown(self):
        return (
            [self.places["hand", hand] for hand in range(8)],
            [(number, self.points(number), self.weight(number)) for number in self.alive],
            sorted(self.suspects),
        )

    def refusal(self, word, numbers):
        hands = {"make": 1, "hold": 2, "drop": 1, "put": 2, "empty": 1, "take": 2, "tidy": 0}[word]
        told = [numbers[0], numbers[2]] if word == "put" else list(numbers[:hands])
        if any(hand not in range(8) for hand in told):
            return NoHand
        if word == "make":
            if numbers[1] not in range(7):
                return NoSize
            return Full if len(self.alive) == 60 else None
        if word in ("put", "empty", "take"):
            hand, slot = (numbers[1], numbers[2]) if word == "take" else numbers[:2]
            box = self.places["hand", hand]
            if box is None:
                return NoBox
            if slot not in range(self.sizes[box]):
                return NoSlot
        return None

    def do(self, word, numbers):
        if word == "tidy":
            return self.tidy()
        hand = ("hand", numbers[0])
        if word == "make":
            self.alive.append(self.made)
            self.sizes[self.made] = numbers[1]
            self.places.update({(self.made, slot): None for slot in range(numbers[1])})
            self.made += 1
            return self.change(hand, self.made - 1)
        if word == "hold":
            return self.change(hand, self.places["hand", numbers[1]])
        if word == "drop":
            return self.change(hand, None)
        if word == "put":
            return self.change((self.places[hand], numbers[1]), self.places["hand", numbers[2]])
        if word == "empty":
            return self.change((self.places[hand], numbers[1]), None)
        box = self.places["hand", numbers[1]]
        return self.change(hand, self.places[box, numbers[2]])

    def from_hands(self):
        """The set of all that hands come to."""
        found = {self.places["hand", hand] for hand in range(8)} - {None}
        waiting = list(found)
        for number in waiting:
            further = {pointed for pointed in self.points(number) if pointed is not None} - found
            found |= further
            waiting.extend(further)
        return found

    def tidy(self):
        """As point 8 has it: just what a hand comes to is alive behind it."""
        kept = self.from_hands()
        freed = [number for number in self.alive if number not in kept]
        self.places = {place: number for place, number in self.places.items() if place[0] not in freed}
        self.alive = sorted(kept)
        self.suspects = set()
        return freed

    def change(self, place, number):
        self.places["new"] = number
        old = self.places.pop(place)
        freed = self.let_go([], old)
        for box in freed:
            for slot in range(self.sizes[box]):
                self.let_go(freed, self.places.pop((box, slot)))
        self.places[place] = self.places.pop("new")
        return freed

    def let_go(self, freed, number):
        if number is not None and self.weight(number):
            self.suspects.add(number)
        elif number is not None:
            self.suspects.discard(number)
            self.alive.remove(number)
            freed.append(number)
        return freed


def single(chance):
    """One deed of any kind; now and then with a hand, a size or a slot that there is not."""
    word = chance.choice(["make", "hold", "drop", "put", "put", "put", "empty", "take", "tidy"])
    hand, other = chance.randint(0, 7), chance.randint(0, 7)
    slot = chance.choice([0, 0, 1, 1, 2, 3, 4, 5])
    if chance.random() < 0.03:
        hand = chance.choice([-1, 8])
    if chance.random() < 0.03:
        slot = chance.choice([-1, 6, 7])
    numbers = {
        "make": (hand, chance.choice([0, 1, 2, 2, 3, 6, 7])), "hold": (hand, other), "drop": (hand,),
        "put": (hand, slot, other), "empty": (hand, slot), "take": (hand, other, slot), "tidy": (),
    }
    return [(word, numbers[word])]


def joined(chance):
    """A new box over what two hands hold, which then hangs on the one hand: so chains and trees grow."""
    left, right = chance.sample(range(7), 2)
    slots = chance.sample(range(4), 3)
    return [
        ("make", (7, 4)), ("put", (7, slots[0], left)), ("put", (7, slots[1], right)),
        ("put", (7, slots[2], chance.choice([left, right]))),
        ("drop", (right,)), ("hold", (left, 7)), ("drop", (7,)),
    ]


def ring(chance):
    """A box that points at itself and at what a hand holds, and that no hand comes to any more."""
    return [("make", (7, 2)), ("put", (7, 0, 7)), ("put", (7, 1, chance.randint(0, 6))), ("drop", (7,))]


def closed(chance):
    """Two hands' boxes point at one another, and one hand lets go."""
    left, right = chance.sample(range(7), 2)
    return [("put", (left, 0, right)), ("put", (right, chance.randint(0, 1), left)), ("drop", (right,))]


def tidied(chance):
    """A tidy, or two."""
    return [("tidy", ())] * chance.choice([1, 1, 2])


def row(chance, kinds):
    """A row of some hundred deeds, of these kinds."""
    return [deed for _ in range(100) for deed in chance.choice(kinds)(chance)]


# Rows in which much is freed, rows in which much hangs together, and rows that fill the pile.
ROWS = [
    [single], [single, single, joined], [single, joined, joined, joined], [joined, joined, ring, closed],
    [single, closed, joined], [single, closed, closed, joined, ring],
    [joined] * 8 + [ring] * 8 + [closed] * 8 + [tidied],
    [single] * 10 + [joined] * 5 + [closed] * 10 + [ring] * 5 + [tidied],
]
SEEDS = 5 * len(ROWS)

ANSWERS = {NoHand: "no hand", NoSize: "no size", Full: "full", NoBox: "no box", NoSlot: "no slot"}


class RowsTest(unittest.TestCase):
    def step(self, pile, slow, word, numbers):
        """One deed upon both piles; what it answers, in words."""
        refusal = slow.refusal(word, numbers)
        if refusal is None:
            freed = slow.do(word, numbers)
            self.assertEqual(done(pile, (word,) + numbers), freed)
        else:
            with self.assertRaises(PileError) as caught:
                done(pile, (word,) + numbers)
            self.assertIs(caught.exception.__class__, refusal)
        self.assertEqual(shown(pile), slow.shown())
        return ANSWERS.get(refusal) or "frees " + (" ".join(map(str, freed)) or "none")

    def check_weights(self, pile):
        """Point 2, straight from what the pile tells of its hands and slots."""
        told = pointers(pile)
        for number in pile.alive():
            self.assertEqual(pile.weighs(number), told.count(number))
            self.assertGreaterEqual(pile.weighs(number), 1)
        self.assertLessEqual(set(told), set(pile.alive()) | {None})

    def check_trial(self, pile):
        """Point 8, and the trial numbers; how many boxes can't be come to from a hand."""
        lost = set(pile.alive()) - come_to_by_slots(pile, [pile.holds(hand) for hand in range(8)])
        looked_at = come_to_by_slots(pile, pile.suspects())
        self.assertLessEqual(lost, looked_at)
        self.assertEqual(reached(pile, pile.suspects()), sorted(looked_at))
        within = [pointed for number in looked_at for pointed in pile.points(number)]
        pairs = [(number, pile.weighs(number) - within.count(number)) for number in sorted(looked_at)]
        self.assertEqual(trials(pile), pairs)
        return len(lost)

    def check_ways(self, pile):
        """What a hand comes to, and that each way told leads to its box (test_ways: that it is the best)."""
        found = come_to(pile)
        self.assertEqual(found, sorted(come_to_by_slots(pile, [pile.holds(hand) for hand in range(8)])))
        for number in pile.alive():
            way = way_to(pile, number)
            self.assertEqual(way is None, number not in found)
            if way is not None:
                self.assertEqual(led(pile, way), number)

    def test_rows_of_deeds(self):
        answers, most_freed, most_lost, most_tidied = set(), 0, 0, 0
        for seed in range(SEEDS):
            pile, slow = Pile(), SlowPile()
            with self.subTest(seed=seed):
                for word, numbers in row(random.Random(seed), ROWS[seed % len(ROWS)]):
                    before = len(pile.alive())
                    answer = self.step(pile, slow, word, numbers)
                    answers.add("frees" if answer.startswith("frees") else answer)
                    self.check_weights(pile)
                    most_lost = max(most_lost, self.check_trial(pile))
                    freed = before - len(pile.alive())
                    if word == "tidy":
                        self.assertEqual(pile.suspects(), [])
                        self.assertEqual(pile.alive(), come_to(pile))
                        most_tidied = max(most_tidied, freed)
                    else:
                        most_freed = max(most_freed, freed)
                self.check_ways(pile)
        # The rows are worth their while only if they come to each refusal and free much at once.
        self.assertEqual(answers, {"frees", *ANSWERS.values()})
        self.assertGreater(min(most_freed, most_lost, most_tidied), 5)

    def test_rows_of_lines(self):
        answers = set()
        for seed in range(SEEDS, 2 * SEEDS):
            pile, slow = Pile(), SlowPile()
            with self.subTest(seed=seed):
                deeds = row(random.Random(seed), ROWS[seed % len(ROWS)])
                told = [self.step(pile, slow, word, numbers) for word, numbers in deeds]
                self.assertEqual(played([written((word,) + numbers) for word, numbers in deeds]),
                                 ["no deed" if any(number < 0 for number in numbers) else answer
                                  for answer, (word, numbers) in zip(told, deeds)])
                answers.update(told)
        self.assertLessEqual(set(ANSWERS.values()) | {"frees none"}, answers)


if __name__ == "__main__":
    unittest.main()
