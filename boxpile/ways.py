"""Ways: from a hand over slots to a box."""

from boxpile.errors import NoBox
from boxpile.pile import HANDS, check_slot


def come_to(pile):
    """The numbers, rising, of all boxes that can be come to from a hand."""
    return sorted(best_ways(pile))


def way_to(pile, number):
    """The way to a box with the fewest slots, the least of several such, or None."""
    check_alive(pile, number)
    return best_ways(pile).get(number)


def led(pile, way):
    """The number of the box to which a way leads."""
    number = pile.holds(way[0])
    check_leads(number)
    for slot in way[1:]:
        slots = pile.points(number)
        check_slot(slots, slot)
        number = slots[slot]
        check_leads(number)
    return number


def best_ways(pile):
    """For each box that can be come to from a hand, the way that is told to it."""
    found = {}
    # All ways of one length stand here, the least one first: so the first that comes to a box is the best.
    ways = [(pile.holds(hand), [hand]) for hand in range(HANDS)]
    while ways:
        longer = []
        for number, way in ways:
            if number is not None and number not in found:
                found[number] = way
                longer.extend([(pointed, way + [slot]) for slot, pointed in enumerate(pile.points(number))])
        ways = longer
    return found


def check_alive(pile, number):
    """Refuse the number of a box that is not alive."""
    pile.weighs(number)


def check_leads(number):
    """Refuse a hand that holds, or a slot that points at, none."""
    if number is None:
        raise NoBox("the way leads to no box")
