import random
import unittest

from ripestone.records import blank_stone, fresh_age, is_sealed, record_at, seal_spot, spot_of, worth_by

SIZES = [(panes, rows) for panes in range(1, 9) for rows in range(1, 9)]
GREAT = 10**60 - 1


def numbered(panes, rows):
    """A stone whose box b has the key 100 + b; its string is empty, so it is sound."""
    stone = [[None] * rows + [(0,)] for pane in range(panes)]
    for pane in range(panes):
        for place in range(rows):
            stone[pane][place] = (100 + place * panes + pane, 0, -1, -1, 0)
    return stone


class BlankStoneTest(unittest.TestCase):
    def test_by_hand(self):
        blank = (0, 0, -1, -1, 0)
        self.assertEqual(blank_stone(1, 1), [[blank, (0,)]])
        self.assertEqual(blank_stone(2, 1), [[blank, (0,)], [blank, (0,)]])
        self.assertEqual(blank_stone(1, 2), [[blank, blank, (0,)]])
        self.assertEqual(blank_stone(3, 2), [[blank, blank, (0,)], [blank, blank, (0,)], [blank, blank, (0,)]])

    def test_every_size(self):
        for panes, rows in SIZES:
            stone = blank_stone(panes, rows)
            self.assertEqual(len(stone), panes)
            for pane in stone:
                self.assertEqual(pane, [(0, 0, -1, -1, 0)] * rows + [(0,)])

    def test_the_kinds(self):
        for panes, rows in SIZES:
            stone = blank_stone(panes, rows)
            self.assertIs(type(stone), list)
            for pane in stone:
                self.assertIs(type(pane), list)
                self.assertEqual({type(thing) for thing in pane}, {tuple})
                self.assertEqual({type(number) for thing in pane for number in thing}, {int})

    def test_each_pane_is_a_list_of_its_own(self):
        for panes, rows in SIZES:
            stone = blank_stone(panes, rows)
            self.assertEqual(len({id(pane) for pane in stone}), panes)
            stone[0][0] = (1, 0, 2, 3, 4)
            for pane in stone[1:]:
                self.assertEqual(pane, [(0, 0, -1, -1, 0)] * rows + [(0,)])

    def test_each_stone_is_a_new_one(self):
        stone = blank_stone(2, 2)
        stone[0][0] = (1, 0, 2, 3, 4)
        stone[1].append((5,))
        stone.append([])
        self.assertEqual(blank_stone(2, 2), [[(0, 0, -1, -1, 0)] * 2 + [(0,)]] * 2)


class SpotTest(unittest.TestCase):
    def test_by_hand(self):
        stone = blank_stone(2, 2)
        self.assertEqual([spot_of(stone, box) for box in range(4)], [(0, 0), (1, 0), (0, 1), (1, 1)])
        stone = blank_stone(3, 2)
        told = [spot_of(stone, box) for box in range(6)]
        self.assertEqual(told, [(0, 0), (1, 0), (2, 0), (0, 1), (1, 1), (2, 1)])
        stone = blank_stone(2, 3)
        told = [spot_of(stone, box) for box in range(6)]
        self.assertEqual(told, [(0, 0), (1, 0), (0, 1), (1, 1), (0, 2), (1, 2)])

    def test_every_size(self):
        for panes, rows in SIZES:
            stone = blank_stone(panes, rows)
            told = [spot_of(stone, box) for box in range(panes * rows)]
            self.assertEqual(told, [(pane, place) for place in range(rows) for pane in range(panes)])
            self.assertEqual({type(spot) for spot in told}, {tuple})

    def test_a_stone_that_is_not_blank(self):
        stone = [[(5, 3, 1, 2, 0), (6, 0, 0, 0, 9), (4,)], [(7, 0, 1, 1, 1), (8, 0, 2, 2, 2), (7,)]]
        self.assertEqual([spot_of(stone, box) for box in range(4)], [(0, 0), (1, 0), (0, 1), (1, 1)])


class RecordTest(unittest.TestCase):
    def test_by_hand(self):
        stone = [[(5, 3, 1, 2, 0), (6, 0, 0, 0, 9), (4,)], [(7, 0, 1, 1, 1), (8, 0, 2, 2, 2), (7,)]]
        told = [record_at(stone, box) for box in range(4)]
        self.assertEqual(told, [(5, 3, 1, 2, 0), (7, 0, 1, 1, 1), (6, 0, 0, 0, 9), (8, 0, 2, 2, 2)])

    def test_every_size(self):
        for panes, rows in SIZES:
            stone = numbered(panes, rows)
            for box in range(panes * rows):
                self.assertEqual(record_at(stone, box), (100 + box, 0, -1, -1, 0))
                self.assertEqual(record_at(blank_stone(panes, rows), box), (0, 0, -1, -1, 0))


class SealTest(unittest.TestCase):
    def test_the_spot_by_hand(self):
        stone = blank_stone(3, 2)
        told = [seal_spot(stone, age) for age in range(1, 8)]
        self.assertEqual(told, [(1, 2), (2, 2), (0, 2), (1, 2), (2, 2), (0, 2), (1, 2)])
        self.assertEqual([seal_spot(blank_stone(1, 4), age) for age in (1, 2, 9)], [(0, 4)] * 3)

    def test_the_spot_in_every_size(self):
        for panes, rows in SIZES:
            stone = blank_stone(panes, rows)
            for age in range(1, 20):
                pane = [number for number in range(panes) if (age - number) % panes == 0]
                self.assertEqual([seal_spot(stone, age)], [(pane[0], rows)])
                self.assertIs(type(seal_spot(stone, age)), tuple)

    def test_the_spot_of_great_ages(self):
        self.assertEqual(seal_spot(blank_stone(7, 2), 7 * 10**58 + 5), (5, 2))
        self.assertEqual(seal_spot(blank_stone(8, 8), GREAT), (7, 8))
        self.assertEqual(seal_spot(blank_stone(3, 1), GREAT), (0, 1))

    def test_sealed(self):
        stone = blank_stone(3, 2)
        stone[0][2] = (6,)
        stone[1][2] = (4,)
        told = [age for age in range(1, 20) if is_sealed(stone, age)]
        self.assertEqual(told, [4, 6])
        for age in range(1, 20):
            self.assertIs(is_sealed(stone, age), age in (4, 6))

    def test_a_seal_in_another_pane_does_not_seal(self):
        stone = blank_stone(3, 2)
        stone[2][2] = (4,)
        self.assertIs(is_sealed(stone, 4), False)
        stone[1][2] = (4,)
        self.assertIs(is_sealed(stone, 4), True)

    def test_neither_a_later_nor_an_earlier_seal_seals(self):
        stone = blank_stone(2, 1)
        stone[1][1] = (5,)
        self.assertIs(is_sealed(stone, 3), False)
        self.assertIs(is_sealed(stone, 5), True)
        self.assertIs(is_sealed(stone, 7), False)

    def test_nothing_is_sealed_on_a_blank_stone(self):
        for panes, rows in SIZES:
            for age in range(1, 10):
                self.assertIs(is_sealed(blank_stone(panes, rows), age), False)

    def test_each_pane(self):
        for panes, rows in SIZES:
            for age in range(1, 10):
                stone = blank_stone(panes, rows)
                stone[age % panes][rows] = (age,)
                self.assertEqual([one for one in range(1, 20) if is_sealed(stone, one)], [age])

    def test_great_ages(self):
        stone = blank_stone(3, 2)
        stone[0][2] = (GREAT,)
        self.assertIs(is_sealed(stone, GREAT), True)
        self.assertIs(is_sealed(stone, GREAT - 3), False)
        self.assertIs(is_sealed(stone, GREAT - 1), False)


class WorthTest(unittest.TestCase):
    def setUp(self):
        self.stone = blank_stone(3, 2)
        self.stone[1][2] = (4,)

    def test_age_0(self):
        self.assertEqual(worth_by(self.stone, (9, 1, 5, 6, 0)), 6)
        self.assertEqual(worth_by(self.stone, (9, 1, -1, 0, 0)), 0)
        self.assertEqual(worth_by(self.stone, (9, 1, 7, -1, 0)), -1)

    def test_age_0_whatever_its_seal_would_hold(self):
        for number in (0, 1, 3, 6):
            self.stone[0][2] = (number,)
            self.assertEqual(worth_by(self.stone, (9, 1, 5, 6, 0)), 6)

    def test_sealed(self):
        self.assertEqual(worth_by(self.stone, (9, 1, 5, 6, 4)), 6)
        self.assertEqual(worth_by(self.stone, (9, 1, 5, -1, 4)), -1)
        self.assertEqual(worth_by(self.stone, (9, 1, -1, 0, 4)), 0)

    def test_not_sealed(self):
        for age in (1, 2, 3, 5, 6, 7, 10):
            self.assertEqual(worth_by(self.stone, (9, 1, 5, 6, age)), 5)
            self.assertEqual(worth_by(self.stone, (9, 1, 5, -1, age)), 5)
            self.assertEqual(worth_by(self.stone, (9, 1, -1, 6, age)), -1)
            self.assertEqual(worth_by(self.stone, (9, 1, 0, 6, age)), 0)

    def test_a_record_that_lies_nowhere_on_the_stone(self):
        self.assertEqual(worth_by(blank_stone(1, 1), (-3, 0, 8, 9, 1)), 8)
        self.assertEqual(worth_by([[(0, 0, -1, -1, 0), (1,)]], (-3, 0, 8, 9, 1)), 9)

    def test_great_numbers(self):
        self.stone[0][2] = (GREAT,)
        self.assertEqual(worth_by(self.stone, (-GREAT, 1, GREAT - 1, GREAT, GREAT)), GREAT)
        self.assertEqual(worth_by(self.stone, (GREAT, 1, GREAT - 1, GREAT, GREAT - 3)), GREAT - 1)
        self.assertEqual(worth_by(self.stone, (GREAT, 1, GREAT - 1, GREAT, 0)), GREAT)


class FreshAgeTest(unittest.TestCase):
    def test_of_a_blank_stone(self):
        for panes, rows in SIZES:
            self.assertEqual(fresh_age(blank_stone(panes, rows)), 1)

    def test_of_the_heads_record(self):
        stone = blank_stone(2, 2)
        stone[0][0] = (0, 0, -1, -1, 7)
        self.assertEqual(fresh_age(stone), 8)

    def test_of_a_record_of_the_string(self):
        stone = blank_stone(2, 2)
        stone[0][0] = (0, 3, -1, -1, 0)
        stone[1][1] = (5, 0, 4, 4, 9)
        self.assertEqual(fresh_age(stone), 10)

    def test_of_a_loose_box(self):
        stone = blank_stone(2, 2)
        stone[0][1] = (5, 0, 4, 4, 2)
        self.assertEqual(fresh_age(stone), 3)

    def test_of_a_seal(self):
        for pane in range(2):
            stone = blank_stone(2, 2)
            stone[pane][2] = (6,)
            self.assertEqual(fresh_age(stone), 7)

    def test_of_each_thing_by_itself(self):
        for panes, rows in SIZES:
            for pane in range(panes):
                for place in range(rows + 1):
                    stone = [[(50, 0, 60, 70, 3)] * rows + [(2,)] for one in range(panes)]
                    stone[pane][place] = (11,) if place == rows else (5, 0, 4, 4, 11)
                    self.assertEqual(fresh_age(stone), 12)

    def test_keys_worths_and_nexts_do_not_count(self):
        stone = [[(900, 1, 800, 700, 3), (1,)], [(900, 0, 800, 700, 2), (3,)]]
        self.assertEqual(fresh_age(stone), 4)

    def test_great_ages(self):
        stone = blank_stone(2, 2)
        stone[1][0] = (5, 0, 4, 4, GREAT)
        self.assertEqual(fresh_age(stone), 10**60)
        stone[0][2] = (GREAT - 1,)
        self.assertEqual(fresh_age(stone), 10**60)
        stone[1][0] = (5, 0, 4, 4, 0)
        self.assertEqual(fresh_age(stone), GREAT)

    def test_numbers_are_weighed_as_numbers(self):
        chance = random.Random(19)
        for step in range(200):
            stone = blank_stone(3, 3)
            ages = [chance.choice((chance.randrange(12), chance.randrange(300))) for thing in range(12)]
            for number, age in enumerate(ages):
                pane, place = number % 3, number // 3
                stone[pane][place] = (age,) if place == 3 else (5, 0, 4, 4, age)
            self.assertEqual(fresh_age(stone), max(ages) + 1)


if __name__ == "__main__":
    unittest.main()
