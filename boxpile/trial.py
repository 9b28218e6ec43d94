"""Trial: rings that nothing holds from without are found among the suspects, and freed."""


def reached(pile, numbers):
    """The numbers, rising, of all that can be come to by slots from these boxes, these too."""
    found = {}
    waiting = list(numbers)
    while waiting:
        number = waiting.pop()
        if number not in found:
            waiting.extend(pointed_at(pile, number))
            found[number] = True
    return sorted(found)


def trials(pile):
    """Pairs of the number and the trial number of each box that a tidy would look at, rising."""
    looked_at = reached(pile, pile.suspects())
    from_without = {number: pile.weighs(number) for number in looked_at}
    for number in looked_at:
        for pointed in pointed_at(pile, number):
            from_without[pointed] -= 1
    return list(from_without.items())


def tidy(pile):
    """Free the boxes looked at that nothing from without leads to; the numbers freed, rising."""
    pairs = trials(pile)
    kept = reached(pile, [number for number, trial in pairs if trial > 0])
    freed = [number for number, _ in pairs if number not in kept]
    pile.clear_away(freed)
    return freed


def pointed_at(pile, number):
    """The numbers of the boxes that the slots of a box point at, one for each such slot."""
    return [pointed for pointed in pile.points(number) if pointed is not None]
