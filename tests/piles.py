"""What several tests need: what a pile shows of itself, and ready-made piles."""

from boxpile.pile import HANDS, MOST_ALIVE, Pile

HUGE = 10 ** 60 - 1


def shown(pile):
    """All that a pile tells of itself."""
    return (
        [pile.holds(hand) for hand in range(HANDS)],
        [(number, pile.points(number), pile.weighs(number)) for number in pile.alive()],
        pile.suspects(),
    )


def chain(length, pile=None):
    """A pile whose hand 0 holds the newest box of a chain: each points at the one made before it."""
    pile = pile or Pile()
    pile.make(0, 1)
    for _ in range(length - 1):
        pile.make(1, 1)
        pile.put(1, 0, 0)
        pile.hold(0, 1)
        pile.drop(1)
    return pile


def full_pile():
    """A pile of as many boxes as may be alive, 0 to 59; hand 0 holds the newest."""
    return chain(MOST_ALIVE)


def ring(length, pile=None):
    """A pile with a ring of so many boxes of two slots each, by their first slots; hand 0 holds one."""
    pile = pile or Pile()
    pile.make(0, 2)
    pile.hold(1, 0)
    for _ in range(length - 1):
        pile.make(2, 2)
        pile.put(2, 0, 1)
        pile.hold(1, 2)
    pile.put(0, 0, 1)
    pile.drop(1)
    pile.drop(2)
    return pile


def lost_ring(length, pile=None):
    """A pile with such a ring that no hand comes to any more."""
    pile = ring(length, pile)
    pile.drop(0)
    return pile


def pointers(pile):
    """What all hands and all slots of alive boxes point at, one number or None for each of them."""
    told = [pile.holds(hand) for hand in range(HANDS)]
    for number in pile.alive():
        told.extend(pile.points(number))
    return told


def come_to_by_slots(pile, numbers):
    """The set of all that slots lead to from these boxes (None among them left out), these too."""
    found = set(numbers) - {None}
    while True:
        further = found | {pointed for number in found for pointed in pile.points(number)} - {None}
        if further == found:
            return found
        found = further
