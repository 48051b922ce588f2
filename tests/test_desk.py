import random
import re
import unittest

from ripestone.desk import Desk
from ripestone.errors import (
    BadStone, Full, NoDeed, NoKey, NoPlace, NoRow, NoText, NoWorth, StoneError, Twice,
)
from ripestone.papers import turn_of, waits_for, way_for, why
from ripestone.records import blank_stone
from ripestone.table import Table
from ripestone.texts import read_stone, write_stone
from tests.ground import (
    aged, ask, plan_by_words, rows_by_words, slow_chain_by_words, sound_by_chance, strung, told_of_table,
)

GREAT = 10**60 - 1
NUMBER = "(?:0|-?[1-9][0-9]{0,59})"
AFTER = f"(?: after {NUMBER}(?: {NUMBER})*)?"
# The interface's list of rows, as patterns.
ROWS = (
    f"put {NUMBER} {NUMBER}{AFTER}", f"take {NUMBER}{AFTER}", f"pact(?: put {NUMBER} {NUMBER}| take {NUMBER})*{AFTER}",
    f"carve {NUMBER}(?: (?:0|[1-9][0-9]{{0,59}}))?", "fall", "load (?s:.*)", f"get {NUMBER}", "rows", "found", "stone",
    "standing", f"turn {NUMBER}", f"why {NUMBER}", f"waits {NUMBER}", f"way {NUMBER}(?: {NUMBER})*",
)
ASKING = ("rows", "found", "stone", "standing", "get 7", "get 3")
NO_TEXTS = (None, 0, 1, True, False, 1.5, b"", b"rows", (), ("rows",), [], ["rows"], {}, {"rows": 1}, object(), Table)


def is_row(row):
    return any(re.fullmatch(pattern, row) for pattern in ROWS)


def listed(numbers):
    return " ".join(str(number) for number in numbers) or "-"


def listed_rows(rows):
    return " ".join(f"{key}:{worth}" for key, worth in rows) or "-"


class PlainDesk:
    """The same rows, each asked of a table by hand; such rows alone as the interface lists."""

    def __init__(self, stone):
        self.table = Table(stone)

    def deed(self, words):
        after = None
        if "after" in words:
            after = [int(word) for word in words[words.index("after") + 1:]]
            words = words[:words.index("after")]
        parts = re.findall("(put) ([^ ]+) ([^ ]+)|(take) ([^ ]+)", " ".join(words))
        parts = [("put", int(one[1]), int(one[2])) if one[0] else ("take", int(one[4])) for one in parts]
        return str(ask(self.table, words[0] != "pact", parts, after))

    def say(self, row):
        word, blank, behind = row.partition(" ")
        if word in ("put", "take", "pact"):
            return self.deed(row.split(" "))
        if word in ("fall", "load"):
            self.table = Table(read_stone(behind) if word == "load" else self.table.stone())
            return "ok"
        numbers = [int(one) for one in behind.split()]
        if word == "get":
            worth = self.table.get(*numbers)
            return "none" if worth is None else str(worth)
        return {
            "carve": lambda: listed(self.table.carve(*numbers)),
            "rows": lambda: listed_rows(self.table.rows()),
            "found": lambda: listed_rows(rows_by_words(self.table.stone())),
            "stone": lambda: write_stone(self.table.stone()),
            "standing": lambda: listed(self.table.standing()),
            "turn": lambda: str(turn_of(self.table, *numbers)),
            "why": lambda: listed(why(self.table, *numbers)),
            "waits": lambda: listed(waits_for(self.table, *numbers)),
            "way": lambda: listed(way_for(self.table, numbers)),
        }[word]()


class DeskTest(unittest.TestCase):
    def setUp(self):
        self.desk = Desk(2, 2)

    def said(self, *told):
        for row, answer in told:
            self.assertEqual(self.desk.say(row), answer, row)

    def snapshot(self):
        return [self.desk.say(row) for row in ASKING] + [told_of_table(self.desk.table)]

    def refused(self, error, row):
        before = self.snapshot()
        with self.assertRaises(error, msg=repr(row)) as caught:
            self.desk.say(row)
        self.assertIs(type(caught.exception), error, repr(row))
        self.assertIsInstance(caught.exception, StoneError)
        self.assertEqual(self.snapshot(), before, repr(row))


class SaidTest(DeskTest):
    def test_a_blank_desk(self):
        self.said(("rows", "-"), ("found", "-"), ("standing", "-"), ("get 0", "none"))
        self.said(("carve 0", "-"), ("carve 1", "-"))
        self.said(("stone", "0,0,-1,-1,0 0,0,-1,-1,0 0;0,0,-1,-1,0 0,0,-1,-1,0 0"))

    def test_sizes(self):
        self.assertEqual(Desk().say("stone"), write_stone(blank_stone(3, 4)))
        for panes in range(1, 9):
            for rows in range(1, 9):
                self.assertEqual(Desk(panes, rows).say("stone"), write_stone(blank_stone(panes, rows)))
        self.assertEqual(Desk(panes=1).say("stone"), write_stone(blank_stone(1, 4)))
        self.assertEqual(Desk(rows=1).say("stone"), write_stone(blank_stone(3, 1)))

    def test_by_hand(self):
        self.said(
            ("put 7 5", "0"), ("put 3 6 after 0", "1"), ("put 7 8 after 1 0 1", "2"), ("get 7", "8"), ("get 4", "none"),
            ("rows", "3:6 7:8"), ("found", "-"), ("standing", "-"),
            ("pact take 3 put 7 9", "3"), ("rows", "7:9"),
            ("turn 0", "2"), ("turn 3", "3"), ("why 0", "1 0"), ("why 3", "7 5 3 1 0"), ("waits 0", "-"),
            ("waits 3", "0 1 2"), ("way 0", "1 0"), ("way 0 3", "0 1 0 1"), ("way 3 0 3", "0 1 0 1"),
            ("carve 1", "-"), ("carve 0 1", "0"), ("found", "7:5"), ("standing", "0"), ("carve 0 0", "-"),
            ("carve 0", "1"), ("found", "3:6 7:5"), ("waits 3", "2"), ("carve 1", "2 3"), ("found", "7:9"),
            ("standing", "0 1 2 3"), ("turn 3", "0"), ("why 3", "-"), ("waits 3", "-"), ("way 3 2", "-"),
            # Behind the sealing one all that is left is tidied.
            ("stone", "0,2,-1,-1,0 3,1,6,-1,1 0;7,0,-1,9,0 0,0,-1,-1,0 1"),
            ("carve 0", "-"), ("stone", "0,1,-1,-1,0 3,1,6,-1,1 0;7,0,-1,9,0 0,0,-1,-1,0 1"),
        )

    def test_takes(self):
        self.said(
            ("put 5 1", "0"), ("put 6 0", "1"), ("take 5", "2"), ("take 6 after 0", "3"), ("rows", "-"),
            ("get 5", "none"), ("put -5 4", "4"), ("rows", "-5:4"), ("take -5 after 4 3", "5"), ("rows", "-"),
        )
        self.assertEqual([self.desk.table.wishes_of(deed) for deed in range(6)], [[], [], [], [0], [], [3, 4]])

    def test_pacts(self):
        self.said(
            ("pact", "0"), ("pact put 3 7", "1"), ("pact take 3 put 4 0 put 5 9", "2"), ("pact after 0", "3"),
            ("pact take 4 after 1 3", "4"), ("pact take 5 put -4 1 after 2", "5"), ("rows", "-4:1"),
        )
        self.assertEqual([self.desk.table.parts_of(deed) for deed in range(6)], [
            [], [("put", 3, 7)], [("take", 3), ("put", 4, 0), ("put", 5, 9)], [], [("take", 4)],
            [("take", 5), ("put", -4, 1)],
        ])
        self.assertEqual([self.desk.table.wishes_of(deed) for deed in range(6)], [[], [], [], [0], [1, 3], [2]])

    def test_a_put_alone_is_no_pact_and_a_pact_of_one_part_is_one(self):
        self.said(("put 3 7", "0"), ("pact put 3 8", "1"))
        self.assertEqual([change[2] for change in self.desk.table.weaver.bench.changes()], [
            (3, 0, -1, 7, 0), (0, 1, -1, -1, 0), (3, 0, 7, 8, 1), (1,), (3, 0, -1, 8, 0),
        ])

    def test_several_are_listed(self):
        self.desk = Desk(1, 8)
        self.said(
            ("put 1 10", "0"), ("put -2 20", "1"), ("put 30 0", "2"), ("rows", "-2:20 1:10 30:0"), ("carve 0", "0 1 2"),
            ("found", "-2:20 1:10 30:0"), ("standing", "0 1 2"), ("pact put 1 11 put 2 12", "3"), ("why 3", "9"),
            ("way 3 1 0", "0"), ("carve 0 3", "-"), ("carve 0 1", "3"), ("found", "-2:20 1:11 2:12 30:0"),
        )

    def test_great_numbers(self):
        self.said(
            (f"put {GREAT} {GREAT}", "0"), (f"put -{GREAT} 0", "1"), ("rows", f"-{GREAT}:0 {GREAT}:{GREAT}"),
            (f"get {GREAT}", str(GREAT)), (f"get -{GREAT}", "0"), (f"carve 1 {GREAT}", "-"),
            (f"carve 0 {GREAT}", "0 1"), ("found", f"-{GREAT}:0 {GREAT}:{GREAT}"), (f"take {GREAT}", "2"),
            ("rows", f"-{GREAT}:0"),
        )

    def test_answers_are_texts(self):
        for row in ("put 3 7", "pact", "take 3", "carve 0", "rows", "found", "stone", "standing", "turn 0", "why 0",
                    "waits 0", "way 0", "get 3", "fall", "load 0,0,-1,-1,0 0"):
            self.assertIs(type(self.desk.say(row)), str)


class FallTest(DeskTest):
    def test_deeds_are_numbered_anew_and_the_stone_is_kept(self):
        self.said(("put 7 5", "0"), ("carve 1", "-"), ("carve 0", "0"))
        self.said(("put 7 6", "1"), ("put 3 1", "2"), ("carve 0 1", "-"))
        stone = self.desk.say("stone")
        self.said(
            ("fall", "ok"), ("stone", stone), ("rows", "7:5"), ("found", "7:5"), ("standing", "-"), ("get 3", "none"),
        )
        self.refused(NoDeed, "turn 0")
        self.refused(NoDeed, "put 7 5 after 0")
        self.said(("put 7 8", "0"), ("standing", "-"), ("carve 1", "0"))
        self.said(("fall", "ok"), ("fall", "ok"), ("rows", "7:8"))

    def test_what_does_not_stand_is_gone(self):
        self.said(("pact put 1 1 put 2 2", "0"), ("carve 1", "-"), ("carve 0", "-"))
        self.said(("found", "-"), ("rows", "1:1 2:2"))
        self.said(("fall", "ok"), ("rows", "-"), ("carve 0", "-"), ("carve 1", "-"), ("found", "-"))
        self.said(("put 1 1", "0"), ("put 2 2", "1"), ("put 3 3", "2"), ("rows", "1:1 2:2 3:3"))

    def test_a_pact_that_stands_is_kept(self):
        self.said(("pact put 1 1 put 2 2", "0"), ("carve 1", "-"), ("carve 0", "-"))
        self.said(("carve 1 1", "-"), ("found", "-"), ("carve 1 1", "0"), ("found", "1:1 2:2"))
        self.said(("fall", "ok"), ("rows", "1:1 2:2"), ("found", "1:1 2:2"))


class LoadTest(DeskTest):
    def test_stones(self):
        chance = random.Random(30)
        for stone in (
            blank_stone(1, 1), blank_stone(8, 8), strung(2, 3, [4, 1, 5], [-7, 0, 20]),
            aged(3, 2, [(2, 10, 5, 6, 1), (5, 40, -1, 9, 2)], (0, 4, GREAT)), sound_by_chance(chance, 3, 3),
        ):
            text = write_stone(stone)
            self.desk.say("pact")
            self.said((f"load {text}", "ok"), ("stone", text), ("standing", "-"))
            self.assertEqual(self.desk.say("rows"), listed_rows(rows_by_words(stone)))
            self.assertEqual(self.desk.say("found"), listed_rows(rows_by_words(stone)))
            self.refused(NoDeed, "turn 0")
            self.said(("pact", "0"))

    def test_no_stone(self):
        self.desk.say("put 3 7")
        for text in (
            "", " ", "  ", "0", "x", "-", " 0,0,-1,-1,0 0", "0,0,-1,-1,0 0 ", "0,0,-1,-1,0  0", "0,0,-1,-1,0 0;", "ok",
            "0,0,-1,-1,0 0\n", "0 0,0,-1,-1,0", "0,0,-1,-1,0 0 after 0", ";".join(["0,0,-1,-1,0 0"] * 9), "0,0,-1,-1 0",
        ):
            self.refused(NoText, "load " + text)

    def test_no_sound_stone(self):
        self.desk.say("put 3 7")
        for text in (
            "0,0,-1,-1,0 -1", "0,1,-1,-1,0 0", "0,0,-2,-1,0 0", "0,0,-1,-1,-1 0", "0,1,-1,-1,0 0;5,1,-1,3,0 0",
            "0,1,-1,-1,0 0;5,0,-1,-1,0 0", "0,-1,-1,-1,0 0",
        ):
            self.refused(BadStone, "load " + text)
            self.refused(NoText, "load " + text + " ")

    def test_the_word_alone(self):
        self.refused(NoRow, "load")
        self.refused(NoRow, " load 0,0,-1,-1,0 0")
        self.refused(NoRow, "load\n0,0,-1,-1,0 0")
        self.refused(NoRow, "loads 0,0,-1,-1,0 0")
        self.refused(NoText, "load ")

    def test_the_size_changes(self):
        self.said(("load " + write_stone(blank_stone(3, 1)), "ok"), ("carve 2", "-"))
        self.said(("put 1 1", "0"), ("put 2 2", "1"))
        self.refused(Full, "put 3 3")
        self.refused(NoPlace, "carve 3")


class NoRowTest(DeskTest):
    def setUp(self):
        DeskTest.setUp(self)
        self.said(("put 7 5", "0"), ("put 3 6", "1"))

    def test_no_words(self):
        for row in ("", " ", "  ", "\n", "\t", "-", "0", "7", "after", "after 0"):
            self.refused(NoRow, row)

    def test_other_words(self):
        for row in ("Put 1 2", "PUT 1 2", "puts 1 2", "pu 1 2", "get_ 1", "row", "rows?", "ok", "none", "help",
                    "deed 0", "many", "say rows", "papers", "stand", "wait 0", "ways 0", "put1 2", "carve0", "seal 0",
                    "come_up"):
            self.refused(NoRow, row)

    def test_blanks(self):
        for row in ("put 1 2", "take 7", "pact", "pact put 1 2", "put 1 2 after 0", "pact after 0 1", "carve 0",
                    "carve 0 1", "fall", "get 7", "rows", "found", "stone", "standing", "turn 0", "why 0", "waits 0",
                    "way 0 1"):
            self.assertTrue(is_row(row))
            for end in (" ", "  ", "\n", "\t", "\r"):
                self.refused(NoRow, row + end)
                self.refused(NoRow, end + row)
            for place, sign in enumerate(row):
                if sign == " ":
                    for other in ("  ", "\t", "\n", "\u00a0", ",", "", " , "):
                        self.refused(NoRow, row[:place] + other + row[place + 1:])

    def test_a_word_too_few_or_too_many(self):
        for row in (
            "put", "put 1", "put 1 2 3", "put 1 2 3 4", "take", "take 7 3", "take 7 take 3", "put 1 2 put 3 4",
            "put 1 2 take 7", "take 7 put 1 2", "carve", "carve 0 1 2", "fall 0", "fall fall", "get", "get 1 2",
            "rows 0", "rows rows", "found 0", "stone 0", "standing 0", "turn", "turn 0 1", "why", "why 0 1", "waits",
            "waits 0 1", "way", "pact 1", "pact 1 2", "pact pact", "pact put", "pact put 1", "pact take",
            "pact put 1 2 3", "pact take 7 3", "pact put 1 2 put", "pact put 1 2 put 3", "pact take 7 take",
            "pact put 1 take 7", "pact take put 1 2", "pact put put 1 2", "pact get 1", "pact put 1 2 fall",
            "pact carve 0",
        ):
            self.refused(NoRow, row)

    def test_after(self):
        for deed in ("put 1 2", "put 7 2", "take 7", "pact", "pact put 1 2", "pact take 7 put 1 2"):
            for behind in ("after", "after after", "after 0 after 1", "after 0 after", "after x", "after 0 x",
                           "after +0", "after -", "after 00", "after 0,1", "after 0 put 1 2", "after put 1 2",
                           "After 0", "0"):
                self.refused(NoRow, f"{deed} {behind}")
        for row in ("after 0 put 1 2", "put after 0", "put 1 after 0", "take after 0", "pact put after 0",
                    "pact put 1 after 0", "pact take after 0", "pact after 0 take 7", "carve 0 after 0",
                    "get 7 after 0", "rows after 0", "turn 0 after 0", "way 0 after 0", "way after 0",
                    "fall after 0", "stone after 0"):
            self.refused(NoRow, row)

    def test_numbers_not_written_so(self):
        for word in ("x", "+1", "-0", "01", "-01", "00", "-", "1.0", "1_0", "1e1", "", "\u0661", "\u00b2", "9" * 61,
                     "-" + "9" * 61, "0x1", "none", "put", "None", "1\n", "\n1", "1,2", "1:2", "1;"):
            for row in ("put {} 2", "put 1 {}", "take {}", "pact put {} 2", "pact put 1 {}", "pact take {}", "carve {}",
                        "carve 0 {}", "carve {} 0", "get {}", "turn {}", "why {}", "waits {}", "way {}", "way 0 {}",
                        "way {} 0", "put 1 2 after {}", "put 1 2 after 0 {}", "take 7 after {}", "pact after {}",
                        "pact put 1 2 take {} after 0"):
                self.refused(NoRow, row.replace("{}", word))

    def test_most_below_0(self):
        for most in (-1, -2, -GREAT):
            self.refused(NoRow, f"carve 0 {most}")
            self.refused(NoRow, f"carve 9 {most}")
            self.refused(NoRow, f"carve -1 {most}")

    def test_no_text(self):
        for thing in NO_TEXTS:
            self.refused(NoRow, thing)

    def test_it_goes_ahead_of_all_else(self):
        for row in (
            "put 1 -1 x", "put 1 -1 after", "put 1 -1 after 9 x", "put 1 2 after 9 -", "take 50 x", "take 50 after",
            "take 50 after 9 x", "pact put 1 2 put 1 2 x", "pact take 50 put", "pact put 1 -1 take",
            "pact put 1 2 put 1 3 after", "pact after 9 x", "carve 9 x", "carve 9 0 0", "carve -1 -1", "turn 9 9",
            "turn -1 0", "why 9 9", "waits 9 9", "way 9 x", "way -1 -", "pact put 1 2 put 2 2 put 3 2 put 4",
        ):
            self.refused(NoRow, row)


class RefusedAsTheTableDoesTest(DeskTest):
    def setUp(self):
        DeskTest.setUp(self)
        self.said(("put 7 5", "0"), ("put 3 6", "1"))

    def test_no_place(self):
        for pane in (2, 3, 8, -1, GREAT, -GREAT):
            self.refused(NoPlace, f"carve {pane}")
            self.refused(NoPlace, f"carve {pane} 0")
            self.refused(NoPlace, f"carve {pane} 1")

    def test_no_worth(self):
        for worth in (-1, -2, -GREAT):
            for key in (7, 9):
                self.refused(NoWorth, f"put {key} {worth}")
                self.refused(NoWorth, f"pact put {key} {worth}")
                self.refused(NoWorth, f"pact take 3 put {key} {worth} after 0")

    def test_no_key(self):
        for key in (0, 4, -7, 73, GREAT):
            self.refused(NoKey, f"take {key}")
            self.refused(NoKey, f"pact take {key}")
            self.refused(NoKey, f"pact put 7 1 take {key} after 1")

    def test_twice(self):
        for parts in ("put 7 1 put 7 1", "take 7 put 7 1", "put 7 1 take 7", "put 9 1 put 9 -1",
                      "take 3 take 7 take 3"):
            self.refused(Twice, f"pact {parts}")
            self.refused(Twice, f"pact {parts} after 1 0")

    def test_full(self):
        self.said(("put 9 1", "2"))
        for row in ("put 1 1", "pact put 1 1", "pact put 7 1 put 1 1", "pact take 7 put 1 1", "put 1 1 after 0 2"):
            self.refused(Full, row)
        self.said(("put 7 1", "3"), ("take 7", "4"), ("put 1 1", "5"))

    def test_no_deed(self):
        for deed in (2, 3, 50, -1, -2, GREAT, -GREAT):
            for row in (f"put 7 1 after {deed}", f"put 9 1 after 0 {deed}", f"take 7 after {deed} 0",
                        f"pact after {deed}", f"pact put 7 1 after 1 {deed}", f"turn {deed}", f"why {deed}",
                        f"waits {deed}", f"way {deed}", f"way 0 {deed}", f"way {deed} 1 0"):
                self.refused(NoDeed, row)

    def test_which_goes_first(self):
        self.refused(NoDeed, "put 7 -1 after 2")
        self.refused(NoDeed, "take 50 after -1")
        self.refused(NoDeed, "pact put 7 1 put 7 1 after 0 2")
        self.said(("put 9 1", "2"))
        self.refused(NoDeed, "put 1 1 after 3")
        self.refused(NoWorth, "put 1 -1")
        self.refused(NoKey, "pact put 1 1 take 50")
        self.refused(Twice, "pact put 1 1 put 1 1")

    def test_the_next_number_and_age_are_those_as_if_nothing_was_refused(self):
        for row in ("pact put 7 -1", "pact take 50", "pact after 9", "put 7 -1", "pact put 1 1 put 2 2 put 4 4", "x",
                    "load x"):
            self.assertRaises(StoneError, self.desk.say, row)
        self.said(("pact", "2"))
        self.assertEqual(self.desk.table.weaver.bench.changes()[-1], (1, 2, (1,), ()))


class AnyRowTest(DeskTest):
    WORDS = ("put", "take", "pact", "after", "carve", "get", "rows", "turn", "why", "waits", "way", "fall", "load", "x")

    def row_by_chance(self, chance):
        def number():
            return str(chance.choice((0, 1, 2, 3, 3, 4, chance.randrange(-3, 12))))

        def some(least):
            return " ".join(number() for one in range(chance.randrange(least, 4)))

        def part():
            return chance.choice((f"put {number()} {number()}", f"take {number()}"))

        after = chance.choice(("", "", "", " after " + some(1)))
        parts = "".join(" " + part() for one in range(chance.randrange(4)))
        return chance.choice((
            part() + after, part() + after, part() + after, "pact" + parts + after, "pact" + parts + after,
            f"carve {number()}", f"carve {chance.randrange(3)}", f"carve {chance.randrange(3)} {number()}",
            f"get {number()}", "rows", "found", "stone", "standing", f"turn {number()}", f"why {number()}",
            f"waits {number()}", "way " + some(1), chance.choice(("fall", "found")),
            chance.choice(("standing", "load " + write_stone(sound_by_chance(chance, 3, 2)))),
        ))

    def changed_by_chance(self, chance, row):
        words = row.split(" ")
        place = chance.randrange(len(words) + 1)
        new = chance.choice(self.WORDS + ("", "0", "1", "-1", "-0", "+1"))
        return chance.choice((
            " ".join(words[:place] + [new] + words[place:]), " ".join(words[:place] + [new] + words[place + 1:]),
            " ".join(words[:place] + words[place + 1:]), row + chance.choice((" ", "\n", " after", " 0", " -1")),
        ))

    def outcome(self, desk, row):
        try:
            return desk.say(row)
        except StoneError as error:
            return type(error)

    def test_as_the_table_answers(self):
        refusals = set()
        for seed in range(60):
            chance = random.Random(seed)
            self.desk = Desk(3, 2)
            plain = PlainDesk(blank_stone(3, 2))
            for step in range(60):
                row = self.row_by_chance(chance)
                if chance.randrange(4) == 0:
                    row = self.changed_by_chance(chance, row)
                before = told_of_table(self.desk.table)
                told = self.outcome(self.desk, row)
                self.assertEqual(told, self.outcome(plain, row) if is_row(row) else NoRow, (seed, row))
                self.assertEqual(told_of_table(self.desk.table), told_of_table(plain.table), (seed, row))
                if not isinstance(told, str):
                    refusals.add(told)
                    self.assertEqual(told_of_table(self.desk.table), before, (seed, row))
        self.assertLessEqual({NoRow, NoDeed, NoPlace, NoKey, Twice, NoText, Full, NoWorth}, refusals)

    def test_papers_by_the_documents_words(self):
        for seed in range(30):
            chance = random.Random(500 + seed)
            self.desk = Desk(2, 3)
            for step in range(25):
                self.outcome(self.desk, self.row_by_chance(chance))
            table = self.desk.table
            bench = table.weaver.bench
            for deed in range(table.many_deeds()):
                links = slow_chain_by_words(bench.changes(), bench.settled(), table.decider(deed))
                self.assertEqual(self.desk.say(f"why {deed}"), listed(links))
                way = plan_by_words(bench.changes(), bench.settled(), [table.decider(deed)])
                self.assertEqual(self.desk.say(f"way {deed}"), listed(way))


class OwnDeskTest(DeskTest):
    def test_two_desks_know_nothing_of_one_another(self):
        other = Desk(2, 2)
        self.said(("put 7 5", "0"), ("carve 1", "-"), ("carve 0", "0"))
        self.assertEqual([other.say(row) for row in ("rows", "found", "standing")], ["-", "-", "-"])
        self.assertEqual(other.say("stone"), write_stone(blank_stone(2, 2)))


if __name__ == "__main__":
    unittest.main()
