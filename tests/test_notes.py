"""Points 11 and 12: deeds written and read, done, and lines played."""

import re
import unittest

from boxpile.errors import Full, NoBox, NoDeed, NoHand, NoSize, NoSlot
from boxpile.notes import done, played, read, shown
from boxpile.pile import Pile
from piles import HUGE, full_pile, lost_ring
from piles import shown as state

DEEDS = {
    "make 0 3": ("make", 0, 3),
    "hold 1 0": ("hold", 1, 0),
    "drop 7": ("drop", 7),
    "put 0 2 1": ("put", 0, 2, 1),
    "empty 4 5": ("empty", 4, 5),
    "take 3 2 0": ("take", 3, 2, 0),
    "tidy": ("tidy",),
}
SIGNS = "".join(chr(code) for code in range(32, 127) if chr(code) != "%")
NUMBER = "(0|[1-9][0-9]{0,59})"
LINE = re.compile(
    rf"(drop( {NUMBER}){{1}}|(make|hold|empty)( {NUMBER}){{2}}|(put|take)( {NUMBER}){{3}}|tidy)", re.ASCII
)


class ShownTest(unittest.TestCase):
    def test_each_deed(self):
        for line, deed in DEEDS.items():
            self.assertEqual(shown(deed), line)

    def test_numbers_of_sixty_figures(self):
        self.assertEqual(shown(("put", HUGE, 0, HUGE)), "put " + "9" * 60 + " 0 " + "9" * 60)
        self.assertEqual(shown(("drop", 10 ** 59)), "drop 1" + "0" * 59)


class ReadTest(unittest.TestCase):
    def refused(self, line):
        with self.subTest(line), self.assertRaises(NoDeed):
            read(line)

    def test_each_deed(self):
        for line, deed in DEEDS.items():
            told = read(line)
            self.assertEqual(told, deed)
            self.assertIsInstance(told, tuple)
            self.assertTrue(all(type(number) is int for number in told[1:]))

    def test_what_is_written_is_read_to_the_same_deed(self):
        numbers = (0, 1, 7, 8, 9, 10, 60, 100, 10 ** 59, HUGE)
        for first in numbers:
            for last in numbers:
                deeds = [("drop", first), ("put", first, 5, last), ("take", 5, last, first)]
                deeds.extend([(word, first, last) for word in ("make", "hold", "empty")])
                for deed in deeds:
                    self.assertEqual(read(shown(deed)), deed)

    def test_what_a_pile_would_refuse_is_read_all_the_same(self):
        self.assertEqual(read("make 8 7"), ("make", 8, 7))
        self.assertEqual(read("drop " + "9" * 60), ("drop", HUGE))

    def test_sixty_figures_and_one_more(self):
        for number in ("1" * 60, "9" * 60, "1" + "0" * 59):
            self.assertEqual(read("hold 0 " + number), ("hold", 0, int(number)))
            self.refused("hold 0 " + number + "0")
            self.refused(f"hold {number}1 0")
        self.refused("drop " + "1" * 1000)

    def test_a_nought_ahead_of_a_number(self):
        self.assertEqual(read("drop 0"), ("drop", 0))
        for number in ("00", "01", "007", "0" * 60, "0" * 59 + "1", "0" * 61):
            self.refused("drop " + number)
            self.refused(f"put 0 {number} 0")

    def test_signs_ahead_of_a_number(self):
        for number in ("-1", "+1", "-0", "+0", "--1", "1-", "-", "+"):
            self.refused("drop " + number)
            self.refused(f"take 0 0 {number}")

    def test_what_is_no_number(self):
        for number in ("x", "1x", "x1", "1_0", "1.0", "1e1", "0x1", "0b1", "1,0", "~", "none", "1\t", "drop"):
            self.refused("drop " + number)
            self.refused(f"make {number} 1")

    def test_figures_of_other_scripts(self):
        for number in ("\u0663", "\uff11", "\u00b2", "1\u0661"):
            self.refused("drop " + number)

    def test_blanks(self):
        for line in DEEDS:
            self.refused(" " + line)
            self.refused(line + " ")
            self.refused(line.replace(" ", "  ") + ("  " if line == "tidy" else ""))
            self.refused(line.replace(" ", "\t") + ("\t" if line == "tidy" else ""))
            self.refused(line + "\n")
        for line in ("", " ", "  ", "    ", "\n", "make0 3", "make 03", "put 0  2 1", "put 0 2  1", "put  0 2 1"):
            self.refused(line)

    def test_words_that_are_none(self):
        for word in ("", "Make", "MAKE", "mak", "makes", "free", "none", "box", "tidy,", "0", "weighs", "get"):
            for numbers in ("", " 0", " 0 0", " 0 0 0", " 0 0 0 0"):
                self.refused(word + numbers)

    def test_too_few_and_too_many_numbers(self):
        for line, deed in DEEDS.items():
            for count in range(6):
                tried = " ".join([deed[0]] + ["0"] * count)
                if count == len(deed) - 1:
                    self.assertEqual(read(tried), (deed[0],) + (0,) * count)
                else:
                    self.refused(tried)

    def test_each_line_with_one_sign_more_or_less_or_changed(self):
        lines = list(DEEDS) + ["hold 10 9", "put 12 0 345", "drop " + "8" * 60, "make 0 " + "1" * 60]
        for line in lines:
            near = set()
            for at in range(len(line) + 1):
                near.add(line[:at] + line[at + 1:])
                near |= {line[:at] + sign + line[at:] for sign in SIGNS}
                near |= {line[:at] + sign + line[at + 1:] for sign in SIGNS}
            for other in sorted(near):
                if LINE.fullmatch(other):
                    self.assertEqual(shown(read(other)), other)
                else:
                    self.refused(other)


class DoneTest(unittest.TestCase):
    def setUp(self):
        """Hand 0 holds box 0 of two slots, which points at itself and at box 1, which hand 1 holds."""
        self.pile = Pile()
        self.deeds(("make", 0, 2), ("make", 1, 1), ("put", 0, 0, 0), ("put", 0, 1, 1))

    def deeds(self, *deeds):
        for deed in deeds:
            self.assertEqual(done(self.pile, deed), [])

    def test_make(self):
        self.assertEqual(done(self.pile, ("make", 6, 3)), [])
        self.assertEqual((self.pile.holds(6), self.pile.points(2)), (2, [None] * 3))

    def test_hold(self):
        self.assertEqual(done(self.pile, ("hold", 6, 1)), [])
        self.assertEqual((self.pile.holds(6), self.pile.holds(1)), (1, 1))
        self.assertEqual(done(self.pile, ("hold", 1, 5)), [])
        self.assertEqual((self.pile.holds(6), self.pile.holds(1)), (1, None))

    def test_drop(self):
        self.assertEqual(done(self.pile, ("make", 6, 3)), [])
        self.assertEqual(done(self.pile, ("drop", 6)), [2])
        self.assertIsNone(self.pile.holds(6))

    def test_put_and_empty(self):
        self.assertEqual(done(self.pile, ("put", 1, 0, 0)), [])
        self.assertEqual((self.pile.points(0), self.pile.points(1)), ([0, 1], [0]))
        self.assertEqual(done(self.pile, ("empty", 0, 1)), [])
        self.assertEqual((self.pile.points(0), self.pile.points(1)), ([0, None], [0]))

    def test_take(self):
        self.assertEqual(done(self.pile, ("take", 6, 0, 1)), [])
        self.assertEqual([self.pile.holds(hand) for hand in (0, 1, 6)], [0, 1, 1])

    def test_tidy(self):
        self.deeds(("drop", 0), ("drop", 1))
        self.assertEqual(done(self.pile, ("tidy",)), [0, 1])
        self.assertEqual(state(self.pile), state(Pile()))
        self.assertEqual(done(self.pile, ("tidy",)), [])

    def test_the_numbers_freed_come_in_their_order(self):
        self.deeds(("make", 2, 2), ("make", 3, 0), ("put", 2, 0, 3), ("drop", 3))
        self.assertEqual(done(self.pile, ("drop", 2)), [2, 3])
        self.deeds(("make", 3, 0), ("make", 2, 2), ("put", 2, 0, 3), ("drop", 3))
        self.assertEqual(done(self.pile, ("drop", 2)), [5, 4])

    def test_refusals_change_nothing(self):
        before = state(self.pile)
        for kind, deed in (
            (NoHand, ("make", 8, 9)), (NoHand, ("hold", 0, HUGE)), (NoHand, ("drop", -1)),
            (NoHand, ("put", 3, 9, 8)), (NoHand, ("empty", HUGE, 0)), (NoHand, ("take", 8, 0, 0)),
            (NoSize, ("make", 0, 7)), (NoSize, ("make", 0, -HUGE)),
            (NoBox, ("put", 3, 9, 0)), (NoBox, ("empty", 3, 0)), (NoBox, ("take", 0, 3, 0)),
            (NoSlot, ("put", 0, 2, 1)), (NoSlot, ("empty", 0, -1)), (NoSlot, ("take", 3, 1, 1)),
        ):
            with self.subTest(deed):
                with self.assertRaises(kind):
                    done(self.pile, deed)
                self.assertEqual(state(self.pile), before)

    def test_what_is_no_deed(self):
        before = state(self.pile)
        for deed in (("free", 0), ("tidy", 0), ("drop",), ("make", 0, 1, 2)):
            with self.subTest(deed):
                with self.assertRaises(NoDeed):
                    done(self.pile, deed)
                self.assertEqual(state(self.pile), before)

    def test_full(self):
        pile = full_pile()
        before = state(pile)
        with self.assertRaises(Full):
            done(pile, ("make", 0, 0))
        self.assertEqual(state(pile), before)

    def test_the_list_given_back_is_a_new_one(self):
        pile = lost_ring(2)
        done(pile, ("tidy",)).append(5)
        told = done(pile, ("drop", 0))
        told.append(5)
        self.assertEqual(done(pile, ("drop", 0)), [])
        self.assertEqual(state(pile), state(Pile()))


class PlayedTest(unittest.TestCase):
    def test_no_lines(self):
        self.assertEqual(played([]), [])

    def test_an_empty_line(self):
        self.assertEqual(played([""]), ["no deed"])
        self.assertEqual(played(["", "", "tidy"]), ["no deed", "no deed", "frees none"])

    def test_all_seven_deeds(self):
        lines = [
            "make 0 2", "hold 1 0", "put 0 1 1", "drop 0", "take 2 1 1", "empty 1 1",
            "drop 2", "drop 1", "make 3 1", "put 3 0 3", "drop 3", "tidy",
        ]
        self.assertEqual(played(lines), ["frees none"] * 7 + ["frees 0"] + ["frees none"] * 3 + ["frees 1"])

    def test_several_numbers_freed(self):
        lines = ["make 0 2", "make 1 0", "make 2 0", "put 0 0 2", "put 0 1 1", "drop 1", "drop 2", "drop 0"]
        self.assertEqual(played(lines), ["frees none"] * 7 + ["frees 0 2 1"])

    def test_a_tidy_tells_rising_numbers(self):
        lines = ["make 0 1"]
        for _ in range(11):
            lines.extend(["make 1 1", "put 1 0 0", "hold 0 1"])
        lines.extend(["drop 0", "drop 1"])
        self.assertEqual(played(lines)[-1], "frees 11 10 9 8 7 6 5 4 3 2 1 0")
        ring = lines[:1] + ["hold 2 0"] + lines[1:-2] + ["put 2 0 0", "drop 0", "drop 1", "drop 2", "tidy", "tidy"]
        self.assertEqual(played(ring)[-3:], ["frees none", "frees 0 1 2 3 4 5 6 7 8 9 10 11", "frees none"])

    def test_each_refusal(self):
        lines = ["make 8 0", "make 0 7", "drop 01", "put 0 0 0", "make 0 0", "put 0 0 0", "make 0 1", "put 1 1 1"]
        answers = ["no hand", "no size", "no deed", "no box", "frees none", "no slot", "frees 0", "no box"]
        self.assertEqual(played(lines), answers)

    def test_full(self):
        lines = ["make 0 1", "put 0 0 0", "drop 0"] * 60 + ["make 0 1", "make 8 1", "make 0 7", "tidy", "make 0 1"]
        everything = "frees " + " ".join(str(number) for number in range(60))
        self.assertEqual(played(lines), ["frees none"] * 180 + ["full", "no hand", "no size", everything, "frees none"])

    def test_the_first_refusal_that_fits_is_told(self):
        lines = ["make 8 9", "put 0 9 8", "empty 0 9", "take 0 1 9", "take 8 8 8", "put -1 0 0", "tidy 0"]
        answers = ["no hand", "no hand", "no box", "no box", "no hand", "no deed", "no deed"]
        self.assertEqual(played(lines), answers)

    def test_what_is_refused_changes_nothing(self):
        lines = ["make 0 1", "put 0 0 0", "drop 0"]
        for bad in ("make 9 0", "make 0 9", "empty 1 0", "make", "tidy ", "drop 9"):
            mixed = [part for line in lines for part in (bad, line)]
            self.assertEqual(played(mixed + ["tidy"])[1::2], ["frees none"] * 3)
            self.assertEqual(played(mixed + ["tidy"])[-1], "frees 0")

    def test_numbers_of_sixty_figures_and_more(self):
        lines = ["drop " + "9" * 60, "make 0 " + "9" * 60, "make 0 0", "empty 0 " + "9" * 60, "drop " + "9" * 61]
        self.assertEqual(played(lines), ["no hand", "no size", "frees none", "no slot", "no deed"])

    def test_each_play_has_a_new_pile_and_a_new_list(self):
        lines = ["make 0 0", "drop 0"]
        first = played(lines)
        first.append("more")
        self.assertEqual(lines, ["make 0 0", "drop 0"])
        self.assertEqual(played(lines), ["frees none", "frees 0"])


if __name__ == "__main__":
    unittest.main()
