"""Piles: eight hands, and boxes that are freed when nothing points at them any more."""

from boxpile.errors import Full, NoBox, NoHand, NoSize, NoSlot

HANDS = 8
MOST_SLOTS = 6
MOST_ALIVE = 60


class Box:
    """A box that is alive: what its slots point at, and what is known of the pointers at it."""

    def __init__(self, size):
        self.slots = [None] * size
        self.weight = 0
        self.suspect = False


class Pile:
    """Hands and boxes. Each deed gives the list of the numbers freed by it, in their order."""

    def __init__(self):
        self._hands = [None] * HANDS
        self._boxes = {}
        self._made = 0

    def make(self, hand, size):
        """A new box with so many empty slots, which the hand then holds."""
        check_hand(hand)
        if not 0 <= size <= MOST_SLOTS:
            raise NoSize("a box has 0 to 6 slots")
        if len(self._boxes) >= MOST_ALIVE:
            raise Full("60 boxes are alive")
        number = self._made
        self._made += 1
        self._boxes[number] = Box(size)
        return self._point(self._hands, hand, number)

    def hold(self, hand, other):
        """The hand holds what the other hand holds."""
        check_hand(hand)
        check_hand(other)
        return self._point(self._hands, hand, self._hands[other])

    def drop(self, hand):
        """The hand holds none."""
        check_hand(hand)
        return self._point(self._hands, hand, None)

    def put(self, hand, slot, other):
        """That slot of the box which the hand holds points at what the other hand holds."""
        check_hand(hand)
        check_hand(other)
        return self._point(self._slots_with(hand, slot), slot, self._hands[other])

    def empty(self, hand, slot):
        """That slot of the box which the hand holds points at none."""
        check_hand(hand)
        return self._point(self._slots_with(hand, slot), slot, None)

    def take(self, hand, other, slot):
        """The hand holds what that slot of the box which the other hand holds points at."""
        check_hand(hand)
        check_hand(other)
        slots = self._slots_with(other, slot)
        return self._point(self._hands, hand, slots[slot])

    def holds(self, hand):
        """The number of the box that the hand holds, or None."""
        check_hand(hand)
        return self._hands[hand]

    def points(self, number):
        """A new list with the number that each slot of the box points at, or None."""
        return list(self._box(number).slots)

    def weighs(self, number):
        """How many pointers there are at the box."""
        return self._box(number).weight

    def alive(self):
        """The numbers of all boxes that are alive, rising."""
        return sorted(self._boxes)

    def suspects(self):
        """The numbers of all boxes that were let go and are alive yet, rising."""
        return [number for number in sorted(self._boxes) if self._boxes[number].suspect]

    def clear_away(self, numbers):
        """What a tidy ends with: these boxes are freed, all at once, and no box is a suspect any more."""
        for number in numbers:
            for pointed in self._boxes[number].slots:
                if pointed is not None:
                    box = self._boxes[pointed]
                    box.weight -= 1
        for number in numbers:
            del self._boxes[number]
        for box in self._boxes.values():
            box.suspect = False

    def _box(self, number):
        if number not in self._boxes:
            raise NoBox("no box of this number is alive")
        return self._boxes[number]

    def _slots_with(self, hand, slot):
        """The slots, this one among them, of the box which the hand holds."""
        number = self._hands[hand]
        if number is None:
            raise NoBox("the hand holds no box")
        slots = self._boxes[number].slots
        check_slot(slots, slot)
        return slots

    def _point(self, pointers, at, number):
        """One of the hands, or of a box's slots, points at a box or at none instead of what it did."""
        # The new pointer counts first: a box that is both the old and the new one never falls to 0.
        if number is not None:
            box = self._boxes[number]
            box.weight += 1
        old = pointers[at]
        pointers[at] = number
        return self._let_go(old)

    def _let_go(self, pointer):
        """Let one pointer go, then those of each box freed by it; the numbers freed."""
        waiting = [pointer]
        freed = []
        while waiting:
            number = waiting.pop(0)
            if number is None:
                continue
            box = self._boxes[number]
            box.weight -= 1
            box.suspect = True
            if box.weight == 0:
                del self._boxes[number]
                freed.append(number)
                # Behind what waits already, so that boxes freed earlier have their slots let go first.
                waiting.extend(box.slots)
        return freed


def check_hand(hand):
    """Refuse what is no hand."""
    if not 0 <= hand < HANDS:
        raise NoHand("hands are numbered 0 to 7")


def check_slot(slots, slot):
    """Refuse what is no slot of a box with these slots."""
    if not 0 <= slot < len(slots):
        raise NoSlot("the box has no such slot")
