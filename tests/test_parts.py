import copy
import itertools
import random
import unittest

from ripestone.errors import NoKey, NoWorth, StoneError, Twice
from ripestone.parts import plainly
from tests.ground import lists_in, spoil

GREAT = 10**60 - 1
ROWS = [(-4, 0), (2, 7), (9, 3)]


def first_refusal(rows, parts):
    """The error of the first part that can't be, or None."""
    for place, part in enumerate(parts):
        if part[1] in [other[1] for other in parts[:place]]:
            return Twice
        if part[0] == "put" and part[2] < 0:
            return NoWorth
        if part[0] == "take" and part[1] not in [key for key, worth in rows]:
            return NoKey
    return None


def one_by_one(rows, parts):
    for part in parts:
        rows = [(key, worth) for key, worth in rows if key != part[1]]
        if part[0] == "put":
            rows = rows + [(part[1], part[2])]
    return sorted(rows)


class PlainlyTest(unittest.TestCase):
    def test_no_parts(self):
        self.assertEqual(plainly(ROWS, []), ROWS)
        self.assertEqual(plainly([], []), [])

    def test_a_put_of_a_key_that_is_not_there(self):
        self.assertEqual(plainly([], [("put", 5, 6)]), [(5, 6)])
        self.assertEqual(plainly(ROWS, [("put", -5, 6)]), [(-5, 6), (-4, 0), (2, 7), (9, 3)])
        self.assertEqual(plainly(ROWS, [("put", 3, 6)]), [(-4, 0), (2, 7), (3, 6), (9, 3)])
        self.assertEqual(plainly(ROWS, [("put", 10, 6)]), [(-4, 0), (2, 7), (9, 3), (10, 6)])

    def test_a_put_of_a_key_that_is_there(self):
        self.assertEqual(plainly(ROWS, [("put", -4, 6)]), [(-4, 6), (2, 7), (9, 3)])
        self.assertEqual(plainly(ROWS, [("put", 2, 6)]), [(-4, 0), (2, 6), (9, 3)])
        self.assertEqual(plainly(ROWS, [("put", 9, 3)]), ROWS)

    def test_a_worth_of_0(self):
        self.assertEqual(plainly(ROWS, [("put", 2, 0)]), [(-4, 0), (2, 0), (9, 3)])
        self.assertEqual(plainly([], [("put", 0, 0)]), [(0, 0)])

    def test_a_take(self):
        self.assertEqual(plainly(ROWS, [("take", -4)]), [(2, 7), (9, 3)])
        self.assertEqual(plainly(ROWS, [("take", 2)]), [(-4, 0), (9, 3)])
        self.assertEqual(plainly(ROWS, [("take", 9)]), [(-4, 0), (2, 7)])
        self.assertEqual(plainly([(0, 0)], [("take", 0)]), [])

    def test_several_parts(self):
        parts = [("put", 5, 1), ("take", 2), ("put", -4, 8), ("put", -7, 2)]
        for some in itertools.permutations(parts):
            self.assertEqual(plainly(ROWS, list(some)), [(-7, 2), (-4, 8), (5, 1), (9, 3)])
        self.assertEqual(plainly(ROWS, [("take", 9), ("take", -4), ("take", 2)]), [])

    def test_keys_are_weighed_as_numbers(self):
        parts = [("put", key, 1) for key in (10, 9, -10, -9, 100, 1)]
        self.assertEqual([key for key, worth in plainly([(11, 1)], parts)], [-10, -9, 1, 9, 10, 11, 100])

    def test_great_numbers(self):
        told = plainly([(-GREAT, GREAT)], [("put", GREAT, GREAT), ("put", -GREAT, GREAT - 1), ("put", 0, 0)])
        self.assertEqual(told, [(-GREAT, GREAT - 1), (0, 0), (GREAT, GREAT)])
        self.assertEqual(plainly([(GREAT, 1)], [("take", GREAT)]), [])
        self.assertRaises(NoKey, plainly, [(GREAT, 1)], [("take", GREAT - 1)])

    def test_many(self):
        rows = [(2 * key, key) for key in range(4000)]
        parts = [("take", 2 * key) for key in range(2000)] + [("put", 2 * key + 1, key) for key in range(2000, 4000)]
        told = plainly(rows, parts)
        self.assertEqual(len(told), 4000)
        self.assertEqual(told[:3], [(4000, 2000), (4001, 2000), (4002, 2001)])

    def test_the_kinds(self):
        for parts in ([], [("put", 3, 1)], [("take", 2)]):
            told = plainly(ROWS, parts)
            self.assertIs(type(told), list)
            self.assertEqual([type(row) for row in told], [tuple] * len(told))
            self.assertEqual([len(row) for row in told], [2] * len(told))


class RefusedTest(unittest.TestCase):
    def refused(self, error, parts, rows=ROWS):
        rows = list(rows)
        handed = list(parts)
        with self.assertRaises(error) as caught:
            plainly(rows, handed)
        self.assertIs(type(caught.exception), error)
        self.assertIsInstance(caught.exception, StoneError)
        self.assertEqual(handed, list(parts))

    def test_no_worth(self):
        for worth in (-1, -2, -GREAT):
            for key in (2, 3):
                self.refused(NoWorth, [("put", key, worth)])

    def test_no_key(self):
        for key in (0, 1, 3, -2, 7, GREAT):
            self.refused(NoKey, [("take", key)])
        self.refused(NoKey, [("take", 2)], [])

    def test_twice(self):
        for first, second in itertools.product((("put", 2, 5), ("take", 2)), repeat=2):
            self.refused(Twice, [first, second])
            self.refused(Twice, [("put", 1, 1), first, ("take", 9), second])
        self.refused(Twice, [("put", 5, 1), ("put", 5, 1)])
        self.refused(Twice, [("put", 5, 1), ("take", 5)])

    def test_twice_goes_ahead_of_the_others(self):
        self.refused(Twice, [("put", 2, 5), ("put", 2, -1)])
        self.refused(Twice, [("take", 2), ("put", 2, -1)])
        self.refused(Twice, [("put", 5, 5), ("put", 5, -1)])
        self.refused(Twice, [("take", 2), ("take", 2)])
        self.refused(Twice, [("put", 5, 5), ("take", 5)])

    def test_the_first_part_that_can_not_be(self):
        self.refused(NoWorth, [("put", 2, -1), ("put", 2, 1)])
        self.refused(NoWorth, [("put", 2, -1), ("put", 2, -1)])
        self.refused(NoWorth, [("put", 2, -1), ("take", 5)])
        self.refused(NoKey, [("take", 5), ("take", 5)])
        self.refused(NoKey, [("take", 5), ("put", 2, -1)])
        self.refused(NoKey, [("put", 2, 1), ("take", 5), ("put", 2, 2)])
        self.refused(Twice, [("put", 2, 1), ("put", 2, 2), ("take", 5)])
        self.refused(Twice, [("put", 2, 1), ("put", 2, 2), ("put", 3, -1)])
        self.refused(NoWorth, [("put", 1, 1), ("put", 3, -1), ("put", 1, 1)])

    def test_a_take_looks_for_the_key_and_not_for_the_worth(self):
        self.refused(NoKey, [("take", 7)])
        self.assertEqual(plainly([(7, 0)], [("take", 7)]), [])


class AllSmallPartsTest(unittest.TestCase):
    PARTS = [("put", 1, 0), ("put", 1, -1), ("put", 2, 8), ("put", 2, -2), ("take", 1), ("take", 2), ("take", 3)]

    def check(self, rows, parts):
        refusal = first_refusal(rows, parts)
        if refusal is None:
            self.assertEqual(plainly(rows, parts), one_by_one(rows, parts))
        else:
            with self.assertRaises(refusal, msg=(rows, parts)):
                plainly(rows, parts)

    def test_all(self):
        for rows in ([], [(1, 5)], [(2, 6), (3, 0)], [(1, 4), (2, 2)]):
            for many in range(4):
                for parts in itertools.product(self.PARTS, repeat=many):
                    self.check(rows, list(parts))

    def test_by_chance(self):
        for seed in range(300):
            chance = random.Random(seed)
            rows = [(key, chance.randrange(9)) for key in sorted(chance.sample(range(-9, 9), chance.randrange(12)))]
            parts = []
            for key in chance.sample(range(-9, 9), chance.randrange(7)):
                worth = chance.choice((0, 1, 2, 3, 4, 5, 6, 7, 8, -1))
                parts.append(chance.choice((("put", key, worth), ("take", key))))
            self.check(rows, parts)


class OwnRowsTest(unittest.TestCase):
    PARTS = ([], [("put", 2, 8)], [("put", 3, 8), ("take", 9)], [("take", -4)], [("put", 2, 7)])

    def test_what_is_handed_in_stays_as_it_was(self):
        for parts in self.PARTS:
            rows = copy.deepcopy(ROWS)
            handed = copy.deepcopy(parts)
            told = plainly(rows, handed)
            self.assertEqual((rows, handed), (ROWS, parts))
            self.assertFalse([one for one in lists_in(told) if one is rows or one is handed])
            spoil(told)
            self.assertEqual((rows, handed), (ROWS, parts))

    def test_what_is_told_stays_as_it_was(self):
        for parts in self.PARTS:
            rows = copy.deepcopy(ROWS)
            handed = copy.deepcopy(parts)
            told = plainly(rows, handed)
            kept = copy.deepcopy(told)
            spoil(plainly(rows, handed))
            spoil(rows)
            spoil(handed)
            self.assertEqual(told, kept)
            self.assertEqual(plainly(ROWS, parts), kept)

    def test_what_is_refused_leaves_all_as_it_was(self):
        rows = copy.deepcopy(ROWS)
        parts = [("put", 2, 1), ("take", -4), ("take", 50)]
        self.assertRaises(NoKey, plainly, rows, parts)
        self.assertEqual(rows, ROWS)
        self.assertEqual(parts, [("put", 2, 1), ("take", -4), ("take", 50)])


if __name__ == "__main__":
    unittest.main()
