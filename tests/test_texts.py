import copy
import itertools
import random
import re
import unittest

from ripestone.errors import NoText, StoneError
from ripestone.records import blank_stone
from ripestone.strings import is_sound
from ripestone.texts import read_number, read_stone, write_number, write_stone
from tests.ground import aged, lists_in, sound_by_chance, spoil, strung

GREAT = 10**60 - 1
SIZES = list(itertools.product(range(1, 9), repeat=2))
NO_TEXTS = (
    None, 0, 1, -1, True, False, 1.5, b"", b"1", b"0,0,-1,-1,0 0", (), ("1",), [], ["1"], {}, {"1": 1}, object(),
)
NUMBER = "(0|-?[1-9][0-9]{0,59})"
PANE = f"({NUMBER}(,{NUMBER}){{4}} ){{1,8}}{NUMBER}"
# What int, isdigit and isdecimal take for figures, one by one and in a row.
OTHER_FIGURES = (
    "\u0661", "\u0967", "\uff11", "\uff11\uff12", "1\u0660", "\u06611", "\u00b2", "1\u00b2", "\u2460", "\u00bd",
    "\u4e00", "\u2163", "\U0001d7d8", "-\u0661", "\u22121", "\u20131", "\ufe631", "\uff0d1",
)
ENDS = (
    "\n", "\r", "\r\n", "\t", "\v", "\f", "\x00", "\x1c", "\x85", "\xa0", "\u2028", "\u2003", "\u200b", "\ufeff",
    " ", "  ",
)


def is_written_stone(text):
    """The document's words of a stone's text, as a pattern."""
    panes = text.split(";")
    if not 1 <= len(panes) <= 8 or not all(re.fullmatch(PANE, pane) for pane in panes):
        return False
    return len({pane.count(" ") for pane in panes}) == 1


def any_stone(chance, panes, rows):
    """Of the right form, sound only by chance."""
    def number():
        return chance.choice((0, 1, -1, chance.randrange(-30, 30), chance.randrange(-GREAT, GREAT + 1)))

    return [
        [tuple(number() for index in range(5)) for row in range(rows)] + [(number(),)] for pane in range(panes)
    ]


class TextTest(unittest.TestCase):
    def refused(self, reading, text):
        with self.assertRaises(NoText, msg=repr(text)) as caught:
            reading(text)
        self.assertIs(type(caught.exception), NoText)
        self.assertIsInstance(caught.exception, StoneError)


class NumberTest(TextTest):
    def check(self, number, text):
        self.assertEqual(write_number(number), text)
        self.assertIs(type(write_number(number)), str)
        self.assertEqual(read_number(text), number)
        self.assertIs(type(read_number(text)), int)

    def test_small_ones(self):
        for number, text in ((0, "0"), (1, "1"), (9, "9"), (10, "10"), (42, "42"), (-1, "-1"), (-10, "-10")):
            self.check(number, text)
        for number in range(-1100, 1100):
            self.check(number, str(number))

    def test_one_to_sixty_figures(self):
        for figures in range(1, 61):
            self.check(10**figures - 1, "9" * figures)
            self.check(1 - 10**figures, "-" + "9" * figures)
            self.check(10**(figures - 1), "1" + "0" * (figures - 1))
            self.check(-10**(figures - 1), "-1" + "0" * (figures - 1))
            text = ("1234567890" * 6)[:figures]
            self.check(int(text), text)
            self.check(-int(text), "-" + text)

    def test_more_than_sixty_figures(self):
        for figures in (61, 62, 100, 4300, 5000):
            for text in ("9" * figures, "1" + "0" * (figures - 1)):
                self.refused(read_number, text)
                self.refused(read_number, "-" + text)

    def test_none(self):
        for text in (
            "", " ", "  ", "+", "-", "--", "+1", "+0", "-+1", "+-1", "--1", "-0", "-00", "00", "01", "-01", "000",
            "007", "0" * 60, "0" * 61, "1-", "1-1", "1 ", " 1", " 1 ", "1 1", "- 1", "-1 ", "1.", "1.0", ".5", "1e3",
            "1E3", "1_0", "_1", "1_", "0x1", "0b1", "0o7", "x", "a", "one", "none", "None", "True", "inf", "nan", "1,0",
            ",", ";", "1;", "'1'", '"1"', "(1)", "[1]", "1L", "1j", "/", ":", "1:", "9/",
        ):
            self.refused(read_number, text)

    def test_figures_of_other_scripts(self):
        for text in OTHER_FIGURES:
            self.refused(read_number, text)

    def test_line_ends_and_blanks(self):
        for end in ENDS:
            for text in ("1", "-1", "0", "12"):
                self.refused(read_number, text + end)
                self.refused(read_number, end + text)
            self.refused(read_number, end)
            self.refused(read_number, "1" + end + "2")
            self.refused(read_number, "-" + end + "2")

    def test_every_sign_by_itself_and_next_to_a_figure(self):
        for sign in map(chr, range(0x250)):
            if sign in "0123456789":
                self.assertEqual(read_number(sign), int(sign))
                self.assertEqual(read_number("1" + sign), 10 + int(sign))
            else:
                self.refused(read_number, sign)
                self.refused(read_number, "1" + sign)
                if sign != "-":
                    self.refused(read_number, sign + "1")

    def test_all_small_texts(self):
        for length in range(5):
            for signs in itertools.product("-+019 ", repeat=length):
                text = "".join(signs)
                if re.fullmatch(NUMBER, text):
                    self.assertEqual(write_number(read_number(text)), text)
                else:
                    self.refused(read_number, text)

    def test_no_text(self):
        for thing in NO_TEXTS:
            self.refused(read_number, thing)


class WriteStoneTest(unittest.TestCase):
    def test_by_hand(self):
        self.assertEqual(write_stone([[(0, 1, -1, -1, 0), (4,)]]), "0,1,-1,-1,0 4")
        self.assertEqual(write_stone(blank_stone(1, 1)), "0,0,-1,-1,0 0")
        self.assertEqual(write_stone(blank_stone(2, 2)), "0,0,-1,-1,0 0,0,-1,-1,0 0;0,0,-1,-1,0 0,0,-1,-1,0 0")
        stone = [[(0, 3, -1, -1, 0), (-7, 0, 4, 5, 12), (2,)], [(9, 0, 3, 6, 2), (5, 1, -1, 80, 0), (0,)]]
        self.assertEqual(write_stone(stone), "0,3,-1,-1,0 -7,0,4,5,12 2;9,0,3,6,2 5,1,-1,80,0 0")

    def test_one_that_is_not_sound(self):
        self.assertEqual(write_stone([[(-3, 9, -5, -6, -7), (-8,)]]), "-3,9,-5,-6,-7 -8")

    def test_great_numbers(self):
        text = ",".join(["9" * 60, "-" + "9" * 60, "0", "1", "-1"]) + " " + "9" * 60
        self.assertEqual(write_stone([[(GREAT, -GREAT, 0, 1, -1), (GREAT,)]]), text)


class ReadStoneTest(TextTest):
    def read_back(self, stone):
        text = write_stone(stone)
        self.assertIs(type(text), str)
        self.assertTrue(is_written_stone(text))
        told = read_stone(text)
        self.assertEqual(told, stone)
        self.assertIs(type(told), list)
        for pane in told:
            self.assertIs(type(pane), list)
            for thing in pane:
                self.assertIs(type(thing), tuple)
                self.assertEqual({type(number) for number in thing}, {int})

    def read_or_refused(self, text):
        if is_written_stone(text):
            self.assertEqual(write_stone(read_stone(text)), text)
        else:
            self.refused(read_stone, text)

    def test_every_size(self):
        chance = random.Random(29)
        for panes, rows in SIZES:
            self.read_back(blank_stone(panes, rows))
            self.read_back(sound_by_chance(chance, panes, rows))
            self.read_back(any_stone(chance, panes, rows))

    def test_sound_ones(self):
        self.read_back(strung(2, 3, [4, 1, 5], [-7, 0, 20]))
        self.read_back(aged(3, 2, [(2, 10, 5, 6, 1), (5, 40, -1, 9, 2)], (0, 4, GREAT)))

    def test_ones_that_are_not_sound(self):
        stone = [[(-3, 9, -5, -6, -7), (-8,)], [(1, 1, 1, 1, 1), (GREAT,)], [(-GREAT, 0, 0, 0, GREAT), (-1,)]]
        self.assertFalse(is_sound(stone))
        self.read_back(stone)

    def test_every_count_of_panes_and_things(self):
        record = "0,0,-1,-1,0"
        for panes in range(0, 12):
            for records in range(0, 12):
                text = ";".join([" ".join([record] * records + ["0"])] * panes)
                if 1 <= panes <= 8 and 1 <= records <= 8:
                    self.assertEqual(read_stone(text), blank_stone(panes, records))
                else:
                    self.refused(read_stone, text)

    def test_unlike_many_things(self):
        for panes in range(2, 9):
            for pane in range(panes):
                for records in (0, 1, 3, 8, 9):
                    texts = ["0,0,-1,-1,0 0,0,-1,-1,0 0"] * panes
                    texts[pane] = " ".join(["0,0,-1,-1,0"] * records + ["0"])
                    self.refused(read_stone, ";".join(texts))

    def test_things_with_too_few_or_too_many_numbers(self):
        for many in range(0, 9):
            thing = ",".join(["1"] * many)
            if many != 5:
                self.refused(read_stone, f"{thing} 0")
                self.refused(read_stone, f"0,0,-1,-1,0 {thing} 0")
                self.refused(read_stone, f"{thing} 0,0,-1,-1,0 0;0,0,-1,-1,0 0,0,-1,-1,0 0")
            if many != 1:
                self.refused(read_stone, f"0,0,-1,-1,0 {thing}")
                self.refused(read_stone, f"0,0,-1,-1,0 0;0,0,-1,-1,0 {thing}")

    def test_the_seal_in_another_place(self):
        self.refused(read_stone, "0 0,0,-1,-1,0")
        self.refused(read_stone, "0,0,-1,-1,0 0 0,0,-1,-1,0")
        self.refused(read_stone, "0 0,0,-1,-1,0 0,0,-1,-1,0")
        self.refused(read_stone, "0,0,-1,-1,0 0;0 0,0,-1,-1,0")
        self.refused(read_stone, "0 0,0,-1,-1,0 0")
        self.refused(read_stone, "0 0")

    def test_signs_doubled_ahead_and_behind(self):
        text = "0,3,-1,-1,0 -7,0,4,5,12 2;9,0,3,6,2 5,1,-1,80,0 0"
        self.assertEqual(write_stone(read_stone(text)), text)
        for sign in (",", ";", " ", "-", "+", ".", ":", "x", "\t", "\n", "\r", "\u2028", "\xa0"):
            self.refused(read_stone, text + sign)
            if sign != "-":
                self.refused(read_stone, sign + text)
            for place, other in enumerate(text):
                if other in ",; ":
                    self.refused(read_stone, text[:place] + sign + text[place:])
                    self.refused(read_stone, text[:place] + other + text[place:])
                    self.read_or_refused(text[:place] + text[place + 1:])
                if other in ",; " and sign != other:
                    self.refused(read_stone, text[:place] + sign + text[place + 1:])
        for text in ("", " ", ",", ";", "; ", " ;", ";;", ", ,", "0", "0,0,-1,-1,0", "load", "ok", "-"):
            self.refused(read_stone, text)

    def test_numbers_that_are_not_written_so(self):
        for word in ("", "+1", "-0", "01", "-", "1_0", "\u0661", "9" * 61, "-" + "9" * 61, "1.0", "x", "1\n", "\t1"):
            for place in range(5):
                numbers = ["0"] * 5
                numbers[place] = word
                self.refused(read_stone, ",".join(numbers) + " 0")
                self.refused(read_stone, "0,0,-1,-1,0 0;" + ",".join(numbers) + " 0")
            self.refused(read_stone, "0,0,-1,-1,0 " + word)

    def test_texts_changed_by_chance(self):
        for seed in range(2500):
            chance = random.Random(seed)
            text = write_stone(any_stone(chance, chance.randrange(1, 4), chance.randrange(1, 3)))
            for step in range(chance.randrange(1, 3)):
                place = chance.randrange(len(text) + 1)
                sign = chance.choice("0123456789-,; \n+")
                behind = place + chance.randrange(2)
                text = text[:place] + chance.choice((sign, "", sign + sign)) + text[behind:]
            self.read_or_refused(text)

    def test_no_text(self):
        for thing in NO_TEXTS + (blank_stone(1, 1), tuple(blank_stone(2, 2))):
            self.refused(read_stone, thing)


class OwnTextsTest(unittest.TestCase):
    def test_the_stone_handed_in(self):
        for stone in (blank_stone(2, 2), strung(2, 3, [4, 1, 5])):
            kept = copy.deepcopy(stone)
            text = write_stone(stone)
            self.assertEqual(stone, kept)
            spoil(stone)
            self.assertEqual(read_stone(text), kept)

    def test_the_stone_told(self):
        for text in ("0,0,-1,-1,0 0;0,0,-1,-1,0 0", "0,0,-1,-1,0 0"):
            first = read_stone(text)
            kept = copy.deepcopy(first)
            second = read_stone(text)
            lists = lists_in([first, second])
            self.assertEqual(len(lists), len({id(one) for one in lists}))
            spoil(first)
            self.assertEqual(second, kept)
            self.assertEqual(read_stone(text), kept)


if __name__ == "__main__":
    unittest.main()
