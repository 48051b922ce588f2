"""The promise, whole: whatever is asked of a table, however it is carved and wherever it falls."""

import itertools
import random
import unittest

from ripestone.errors import Full
from ripestone.records import blank_stone
from ripestone.strings import is_sound, rows_found
from ripestone.table import Table
from tests.ground import (
    PlainTable, aged, ask, ask_by_chance, check_promise, closed_sets, deeds_of, laid_by_words, rows_by_words,
    sound_by_chance, string_by_words, strung,
)

AGED = [(2, 10, 5, 6, 1), (3, 20, 4, 7, 2), (1, 30, -1, 8, 3)]
STONES = (
    blank_stone(1, 3), blank_stone(2, 2), blank_stone(3, 1), strung(2, 2, [3, 1], [10, 20]),
    strung(4, 1, [2, 3, 1], [5, 10, 20]), aged(2, 2, AGED, (0, 0)), aged(2, 2, AGED, (2, 3)),
    aged(3, 2, AGED, (3, 1, 0)),
)
ASKED = (
    (True, [("put", 10, 1)]), (True, [("put", 15, 2)]), (True, [("take", 10)]), (True, [("take", 20)]), (False, []),
    (False, [("put", 10, 3), ("put", 15, 4)]), (False, [("put", 5, 5), ("take", 10)]),
    (False, [("take", 20), ("put", 10, 6)]),
)


def panes_of(table):
    return len(table.stone())


def check_table(test, table, first, chance=None):
    """The promise of a table as it is; told which deeds stand."""
    bench = table.weaver.bench
    standing = check_promise(test, first, bench.changes(), deeds_of(table), bench.settled(), chance)
    test.assertEqual(table.stone(), laid_by_words(first, bench.changes(), bench.settled()))
    test.assertTrue(is_sound(table.stone()))
    test.assertEqual(rows_found(table.stone()), rows_by_words(table.stone()))
    test.assertEqual(table.standing(), standing)
    return standing


class AllClosedSetsTest(unittest.TestCase):
    """More than can be carved: every closed set of the changes."""

    def check(self, stone, table, chance=None):
        changes = table.weaver.bench.changes()
        deeds = deeds_of(table)
        for settled in closed_sets([change[3] for change in changes]):
            check_promise(self, stone, changes, deeds, settled, chance)

    def check_rows(self, stone, many, wished):
        for chosen in itertools.product(ASKED, repeat=many):
            table = Table(stone)
            plain = PlainTable(stone)
            for alone, parts in chosen:
                after = [table.many_deeds() - 1] if wished and table.many_deeds() else None
                if plain.refusal(parts, after) is None:
                    ask(table, alone, parts, after)
                    plain.ask(alone, parts, after)
            if table.many_deeds() == many:
                self.check(stone, table)

    def test_one_and_two_deeds(self):
        for stone in STONES:
            self.check_rows(stone, 1, False)
            self.check_rows(stone, 2, False)
            self.check_rows(stone, 2, True)

    def test_three_deeds(self):
        for stone in (STONES[1], STONES[3], STONES[7]):
            self.check_rows(stone, 3, False)

    def test_by_chance(self):
        for seed in range(40):
            chance = random.Random(seed)
            stone = sound_by_chance(chance, chance.randrange(1, 5), chance.randrange(1, 3))
            keys = [key for key, worth in rows_by_words(stone)][:2] + [-99, 99]
            for fall in range(3):
                table = Table(stone)
                while len(table.weaver.bench.changes()) < 12 and table.many_deeds() < 5:
                    ask_by_chance(chance, table, keys)
                self.check(stone, table, chance)
                changes = table.weaver.bench.changes()
                settled = chance.choice(closed_sets([change[3] for change in changes]))
                stone = laid_by_words(stone, changes, settled)

    def test_keys_next_to_one_another_that_come_and_go(self):
        for seed in range(40):
            chance = random.Random(100 + seed)
            stone = blank_stone(chance.randrange(1, 4), 2)
            table = Table(stone)
            while len(table.weaver.bench.changes()) < 14 and table.many_deeds() < 9:
                alone, parts = chance.choice(((True, [("put", chance.randrange(3), 7)]), (False, [])))
                there = [key for key, worth in table.rows()]
                if there and chance.randrange(2):
                    alone, parts = (True, [("take", chance.choice(there))])
                try:
                    ask(table, alone, parts, None)
                except Full:
                    pass
            self.check(stone, table, chance)


class CarvedTest(unittest.TestCase):
    def check(self, seed, stone, keys, steps, mosts):
        chance = random.Random(seed)
        table = Table(stone)
        standing = []
        for step in range(steps):
            for deed in range(chance.choice((0, 1, 1, 2))):
                ask_by_chance(chance, table, keys)
                self.assertEqual(table.standing(), standing, seed)
            for carving in range(chance.choice((0, 1, 2))):
                told = table.carve(chance.randrange(len(stone)), chance.choice(mosts))
                now = check_table(self, table, stone, chance)
                self.assertEqual(now, sorted(standing + told), seed)
                self.assertFalse(set(standing) & set(told), seed)
                standing = now
        while table.weaver.bench.waiting():
            table.carve(chance.randrange(len(stone)), chance.choice(mosts + (None,)))
            now = check_table(self, table, stone, chance)
            self.assertLessEqual(set(standing), set(now), seed)
            standing = now
        self.assertEqual(standing, list(range(table.many_deeds())), seed)
        self.assertEqual(rows_found(table.stone()), table.rows(), seed)

    def test_whole_carvings(self):
        for seed in range(25):
            chance = random.Random(seed)
            self.check(seed, blank_stone(chance.randrange(1, 5), chance.randrange(1, 4)), [3, 5, 8, 9], 10, (None,))

    def test_carvings_broken_off(self):
        for seed in range(40):
            chance = random.Random(50 + seed)
            stone = sound_by_chance(chance, chance.randrange(1, 5), chance.randrange(1, 4))
            keys = [key for key, worth in rows_by_words(stone)][:3] + [-99, 99]
            self.check(seed, stone, keys, 8, (None, 0, 1, 2, 3))

    def test_stroke_by_stroke(self):
        for seed in range(25):
            chance = random.Random(150 + seed)
            stone = sound_by_chance(chance, chance.randrange(2, 4), 2)
            keys = [key for key, worth in rows_by_words(stone)][:2] + [-99, 99]
            self.check(seed, stone, keys, 6, (1,))

    def test_the_bench_carved_by_itself(self):
        for seed in range(25):
            chance = random.Random(200 + seed)
            stone = blank_stone(3, 2)
            table = Table(stone)
            standing = []
            for step in range(15):
                ask_by_chance(chance, table, [3, 5, 8, 9])
                table.weaver.bench.carve(chance.randrange(3), chance.choice((None, 1, 2)))
                now = check_table(self, table, stone, chance)
                self.assertLessEqual(set(standing), set(now))
                standing = now

    def test_a_pact_is_found_wholly_or_not_at_all(self):
        parts = [("put", 10, 9), ("take", 20), ("put", 5, 8), ("put", 30, 7)]
        for some in itertools.permutations(parts):
            for panes, rows in ((1, 6), (2, 3), (3, 2), (5, 1)):
                stone = strung(panes, rows, [2, 1], [10, 20])
                chance = random.Random(panes)
                table = Table(stone)
                table.pact(list(some))
                while table.weaver.bench.waiting():
                    table.carve(chance.randrange(panes), 1)
                    found = rows_found(table.stone())
                    self.assertIn(found, [[(10, 2), (20, 1)], [(5, 8), (10, 9), (30, 7)]])
                    self.assertEqual(found != [(10, 2), (20, 1)], table.standing() == [0])


class FallTest(unittest.TestCase):
    def check_coming_up(self, stone):
        """Of any stone that is found: what coming up leaves as it was, and what it gives back."""
        table = Table(stone)
        self.assertEqual(table.stone(), stone)
        self.assertEqual(table.rows(), rows_by_words(stone))
        self.assertEqual((table.many_deeds(), table.standing()), (0, []))
        many = panes_of(table) * (len(stone[0]) - 1) - 1
        self.assertEqual(len(table.weaver.free()), many - len(table.rows()))
        tied = string_by_words(stone)
        self.assertLessEqual({box for box in range(1, many + 1) if box not in tied}, set(table.weaver.free()))
        return table

    def check_all_filled(self, stone, chance):
        """As many keys can be put as there are boxes but the head."""
        table = self.check_coming_up(stone)
        many = panes_of(table) * (len(stone[0]) - 1) - 1
        keys = [1000 + number for number in range(many - len(table.rows()))]
        for key in keys:
            ask(table, chance.randrange(2) == 0, [("put", key, 1)], None)
        self.assertRaises(Full, table.put, 2000, 1)
        while table.weaver.bench.waiting():
            table.carve(chance.randrange(len(stone)), chance.choice((None, 1, 2)))
            self.assertEqual(rows_found(table.stone())[:len(rows_by_words(stone))], rows_by_words(stone))
        self.assertEqual(rows_found(table.stone()), rows_by_words(stone) + [(key, 1) for key in keys])

    def test_at_each_stroke(self):
        for panes, rows in ((1, 4), (2, 2), (3, 2)):
            stone = strung(panes, rows, [2, 1], [10, 20])
            for seed in range(6):
                chance = random.Random(seed)
                table = Table(stone)
                table.pact([("put", 10, 7), ("put", 15, 8)])
                table.take(20)
                table.put(10, 9)
                table.pact([("take", 15), ("put", 30, 5)])
                table.put(30, 4, [0])
                while table.weaver.bench.waiting():
                    table.carve(chance.randrange(panes), 1)
                    self.check_all_filled(table.stone(), chance)

    def test_again_and_again(self):
        for seed in range(40):
            chance = random.Random(300 + seed)
            stone = sound_by_chance(chance, chance.randrange(1, 5), chance.randrange(1, 4))
            keys = [key for key, worth in rows_by_words(stone)][:3] + [-99, 99]
            for fall in range(6):
                table = self.check_coming_up(stone)
                for step in range(chance.choice((0, 1, 4, 8))):
                    ask_by_chance(chance, table, keys)
                    table.carve(chance.randrange(len(stone)), chance.choice((None, 0, 1, 2, 3)))
                    check_table(self, table, stone, chance)
                stone = table.stone()
            self.check_all_filled(stone, chance)

    def test_one_fall_right_behind_the_other(self):
        for seed in range(30):
            chance = random.Random(400 + seed)
            stone = sound_by_chance(chance, chance.randrange(1, 5), chance.randrange(1, 4))
            found = rows_by_words(stone)
            for fall in range(12):
                table = self.check_coming_up(stone)
                table.carve(chance.randrange(len(stone)), chance.choice((None, 1)))
                check_table(self, table, stone)
                stone = table.stone()
                self.assertEqual(rows_by_words(stone), found, seed)

    def test_what_stood_is_found_behind_the_fall(self):
        for seed in range(30):
            chance = random.Random(450 + seed)
            table = Table(blank_stone(3, 3))
            for deed in range(10):
                ask_by_chance(chance, table, [1, 2, 3, 4, 5])
                table.carve(chance.randrange(3), chance.choice((None, 1)))
            standing = table.standing()
            deeds = deeds_of(table)
            fallen = Table(table.stone())
            rows = {}
            for deed in standing:
                for part in deeds[deed][1]:
                    rows.pop(part[1], None)
                    rows.update([part[1:]] if part[0] == "put" else [])
            self.assertEqual(fallen.rows(), sorted(rows.items()), seed)

    def test_ages_are_not_told_twice(self):
        for seed in range(30):
            chance = random.Random(500 + seed)
            stone = blank_stone(2, 3)
            for fall in range(8):
                table = Table(stone)
                ages = [thing[-1] for pane in stone for thing in pane]
                for pact in range(chance.randrange(4)):
                    table.pact([("put", chance.randrange(3), chance.randrange(9))])
                    age = table.weaver.bench.change(table.decider(pact))[2][0]
                    self.assertGreater(age, max(ages), seed)
                    ages.append(age)
                    table.carve(chance.randrange(2), chance.choice((None, 1, 2)))
                check_table(self, table, stone, chance)
                stone = table.stone()


if __name__ == "__main__":
    unittest.main()
