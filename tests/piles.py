"""What several tests need: what a pile shows of itself, and ready-made piles."""

from boxpile.pile import HANDS, MOST_ALIVE, Pile

HUGE = 10 ** 60 - 1


def shown(pile):
    """All that a pile tells of itself."""
    return (
        [pile.holds(hand) for hand in range(HANDS)],
        [(number, pile.points(number), pile.weighs(number)) for number in pile.alive()],
        pile.suspects(),
    )


def chain(length, pile=None):
    """A pile whose hand 0 holds the newest box of a chain: each points at the one made before it."""
    pile = pile or Pile()
    pile.make(0, 1)
    for _ in range(length - 1):
        pile.make(1, 1)
        pile.put(1, 0, 0)
        pile.hold(0, 1)
        pile.drop(1)
    return pile


def full_pile():
    """A pile of as many boxes as may be alive, 0 to 59; hand 0 holds the newest."""
    return chain(MOST_ALIVE)
