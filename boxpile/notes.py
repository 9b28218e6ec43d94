"""Notes: deeds written as lines, read, done, and played one by one."""

from boxpile.errors import Full, NoBox, NoDeed, NoHand, NoSize, NoSlot
from boxpile.pile import Pile
from boxpile.trial import tidy

# How many numbers stand behind each word.
WORDS = {"make": 2, "hold": 2, "drop": 1, "put": 3, "empty": 2, "take": 3, "tidy": 0}
FIGURES = "0123456789"
MOST_FIGURES = 60


def shown(deed):
    """The line that a deed is written as."""
    return " ".join([str(part) for part in deed])


def read(line):
    """The deed that is written in a line."""
    parts = line.split(" ")
    word = parts[0]
    if WORDS.get(word) != len(parts) - 1:
        raise NoDeed("no word with as many numbers as it takes")
    return tuple([word] + [read_number(part) for part in parts[1:]])


def read_number(part):
    """The number that is written in a part of a line."""
    if not 1 <= len(part) <= MOST_FIGURES or not all(sign in FIGURES for sign in part):
        raise NoDeed("a number has one to sixty figures and nothing else")
    if part[0] == "0" and part != "0":
        raise NoDeed("a number begins with no nought")
    return int(part)


def done(pile, deed):
    """Do a deed upon a pile; the numbers freed by it."""
    match deed:
        case ("make", hand, size):
            return pile.make(hand, size)
        case ("hold", hand, other):
            return pile.hold(hand, other)
        case ("drop", hand):
            return pile.drop(hand)
        case ("put", hand, slot, other):
            return pile.put(hand, slot, other)
        case ("empty", hand, slot):
            return pile.empty(hand, slot)
        case ("take", hand, other, slot):
            return pile.take(hand, other, slot)
        case ("tidy",):
            return tidy(pile)
    raise NoDeed("none of the seven deeds")


def played(lines):
    """Play lines one by one upon a new pile; what each of them answers."""
    pile = Pile()
    return [answer(pile, line) for line in lines]


def answer(pile, line):
    """Play one line; the numbers freed by it, or why it is refused."""
    try:
        freed = done(pile, read(line))
    except NoHand:
        return "no hand"
    except NoSize:
        return "no size"
    except Full:
        return "full"
    except NoBox:
        return "no box"
    except NoSlot:
        return "no slot"
    except NoDeed:
        return "no deed"
    return "frees " + (" ".join([str(number) for number in freed]) or "none")
