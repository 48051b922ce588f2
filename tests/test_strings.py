import copy
import itertools
import random
import unittest

from ripestone.records import blank_stone
from ripestone.strings import is_sound, loose_boxes, rows_found, string_of
from tests.ground import is_sound_by_words, strung

SIZES = [(panes, rows) for panes in range(1, 9) for rows in range(1, 9)]
GREAT = 10**60 - 1
WEIRD = (
    None, 1.0, 0.0, float("nan"), float("inf"), 1j, "", "0", "12345", b"", b"12345", [], [0], [0, 0, -1, -1, 0], {},
    {0: 0}, set(), frozenset((1, 2, 3, 4, 5)), range(5), object(), int, len, Exception("none"), Ellipsis, (), (None,),
    ((0,),), (0.0,), ("0",), ([0],), (0, 0), (0, 0, 0, 0), (0, 0, 0, 0, 0, 0), (0, 0, 0, 0, 0.0), (0, 0, 0, 0, "0"),
)


def with_record(stone, box, record):
    stone = copy.deepcopy(stone)
    stone[box % len(stone)][box // len(stone)] = record
    return stone


def with_thing(stone, pane, place, thing):
    stone = copy.deepcopy(stone)
    stone[pane][place] = thing
    return stone


def with_number(stone, pane, place, index, number):
    thing = list(stone[pane][place])
    thing[index] = number
    return with_thing(stone, pane, place, tuple(thing))


def things_of(stone):
    return [(pane, place) for pane in range(len(stone)) for place in range(len(stone[0]))]


class StringTest(unittest.TestCase):
    def test_of_no_box(self):
        for panes, rows in SIZES:
            stone = blank_stone(panes, rows)
            self.assertEqual(string_of(stone), [])
            self.assertEqual(loose_boxes(stone), list(range(1, panes * rows)))

    def test_of_one_box(self):
        for box in range(1, 6):
            stone = strung(2, 3, [box])
            self.assertEqual(string_of(stone), [box])
            self.assertEqual(loose_boxes(stone), [other for other in range(1, 6) if other != box])

    def test_of_some_boxes(self):
        stone = strung(3, 2, [4, 1, 5])
        self.assertEqual(string_of(stone), [4, 1, 5])
        self.assertEqual(loose_boxes(stone), [2, 3])

    def test_all_boxes_in_any_order(self):
        for many in range(6):
            for boxes in itertools.permutations(range(1, 6), many):
                for panes, rows in ((2, 3), (3, 2), (1, 6), (6, 1)):
                    stone = strung(panes, rows, list(boxes))
                    self.assertEqual(string_of(stone), list(boxes))
                    self.assertEqual(loose_boxes(stone), [box for box in range(1, 6) if box not in boxes])

    def test_every_size(self):
        chance = random.Random(16)
        for panes, rows in SIZES:
            whole = list(range(1, panes * rows))
            for step in range(4):
                boxes = chance.sample(whole, chance.randrange(len(whole) + 1))
                stone = strung(panes, rows, boxes)
                self.assertEqual(string_of(stone), boxes)
                self.assertEqual(loose_boxes(stone), [box for box in whole if box not in boxes])
            boxes = chance.sample(whole, len(whole))
            self.assertEqual(string_of(strung(panes, rows, boxes)), boxes)
            self.assertEqual(loose_boxes(strung(panes, rows, boxes)), [])

    def test_only_next_counts(self):
        stone = strung(2, 3, [3, 5])
        stone = with_record(stone, 0, (70, 3, 8, 9, 6))
        stone = with_record(stone, 4, (90, 3, 8, 9, 6))
        stone = with_record(stone, 3, (-70, 5, -1, -1, 6))
        self.assertEqual(string_of(stone), [3, 5])
        self.assertEqual(loose_boxes(stone), [1, 2, 4])

    def test_the_next_of_loose_boxes_does_not_count(self):
        stone = strung(2, 3, [3, 5])
        for following in range(6):
            told = with_record(stone, 1, (1, following, -1, 4, 0))
            self.assertEqual(string_of(told), [3, 5])
            self.assertEqual(loose_boxes(told), [1, 2, 4])


class RowsFoundTest(unittest.TestCase):
    def test_of_a_blank_stone(self):
        for panes, rows in SIZES:
            self.assertEqual(rows_found(blank_stone(panes, rows)), [])

    def test_age_0(self):
        stone = strung(2, 3, [4, 1, 5], [-7, 0, 20])
        self.assertEqual(rows_found(stone), [(-7, 4), (0, 1), (20, 5)])

    def test_sealed_and_not(self):
        stone = strung(2, 3, [4, 1, 5], [-7, 0, 20])
        stone = with_record(stone, 4, (-7, 1, 30, 31, 3))
        stone = with_record(stone, 5, (20, 0, 40, 41, 2))
        self.assertEqual(rows_found(stone), [(-7, 30), (0, 1), (20, 40)])
        stone[1][3] = (3,)
        self.assertEqual(rows_found(stone), [(-7, 31), (0, 1), (20, 40)])
        stone[0][3] = (2,)
        self.assertEqual(rows_found(stone), [(-7, 31), (0, 1), (20, 41)])
        stone[1][3] = (5,)
        self.assertEqual(rows_found(stone), [(-7, 30), (0, 1), (20, 41)])

    def test_a_worth_of_0_is_one(self):
        stone = with_record(strung(1, 3, [2], [6]), 2, (6, 0, -1, 0, 0))
        self.assertEqual(rows_found(stone), [(6, 0)])
        stone = with_record(stone, 2, (6, 0, 0, -1, 4))
        self.assertEqual(rows_found(stone), [(6, 0)])

    def test_what_has_no_worth_is_not_found(self):
        stone = strung(2, 3, [4, 1, 5], [-7, 0, 20])
        stone = with_record(stone, 4, (-7, 1, -1, 31, 3))
        stone = with_record(stone, 5, (20, 0, 40, -1, 2))
        self.assertEqual(rows_found(stone), [(0, 1), (20, 40)])
        stone[1][3] = (3,)
        stone[0][3] = (2,)
        self.assertEqual(rows_found(stone), [(-7, 31), (0, 1)])
        stone = with_record(stone, 1, (0, 5, -1, -1, 9))
        self.assertEqual(rows_found(stone), [(-7, 31)])

    def test_neither_the_head_nor_loose_boxes_are_found(self):
        stone = strung(2, 3, [3], [5])
        stone = with_record(stone, 0, (1, 3, 8, 9, 0))
        stone = with_record(stone, 4, (6, 0, 8, 9, 0))
        stone = with_record(stone, 1, (2, 3, 8, 9, 0))
        self.assertEqual(rows_found(stone), [(5, 3)])

    def test_the_strings_order_is_not_that_of_the_boxes(self):
        for boxes in itertools.permutations(range(1, 5)):
            stone = strung(5, 1, list(boxes), [10, 20, 30, 40])
            self.assertEqual(rows_found(stone), list(zip((10, 20, 30, 40), boxes)))

    def test_the_kinds(self):
        told = rows_found(strung(2, 3, [4, 1, 5]))
        self.assertIs(type(told), list)
        self.assertEqual([type(row) for row in told], [tuple] * 3)

    def test_great_numbers(self):
        stone = strung(1, 3, [2, 1], [-GREAT, GREAT])
        stone = with_record(stone, 1, (GREAT, 0, GREAT - 1, GREAT, GREAT))
        self.assertEqual(rows_found(stone), [(-GREAT, 2), (GREAT, GREAT - 1)])
        stone[0][3] = (GREAT,)
        self.assertEqual(rows_found(stone), [(-GREAT, 2), (GREAT, GREAT)])


class SoundTest(unittest.TestCase):
    def setUp(self):
        self.stone = strung(2, 3, [4, 1, 5], [-7, 0, 20])

    def sound(self, stone):
        self.assertIs(is_sound(stone), True, stone)

    def unsound(self, thing):
        self.assertIs(is_sound(thing), False, thing)

    def test_blank_stones(self):
        for panes, rows in SIZES:
            self.sound(blank_stone(panes, rows))

    def test_strings_of_every_size(self):
        chance = random.Random(18)
        for panes, rows in SIZES:
            whole = list(range(1, panes * rows))
            for many in (0, len(whole) // 2, len(whole)):
                boxes = chance.sample(whole, many)
                keys = sorted(chance.sample(range(-100, 100), many))
                self.sound(strung(panes, rows, boxes, keys))

    def test_panes_that_are_one_list(self):
        pane = [(0, 0, -1, -1, 0), (0,)]
        self.sound([pane, pane])

    def test_no_list(self):
        for thing in WEIRD + (0, 1, -1, True, False, GREAT):
            self.unsound(thing)
        self.unsound(tuple(self.stone))
        self.unsound({0: self.stone[0], 1: self.stone[1]})
        self.unsound(iter(self.stone))
        self.unsound("0,1,-1,-1,0 4")

    def test_no_panes(self):
        self.unsound([])

    def test_too_many_panes(self):
        for panes in (9, 10, 20):
            self.unsound(blank_stone(panes, 2))

    def test_panes_too_short_or_too_long(self):
        for panes in range(1, 9):
            self.unsound([[] for pane in range(panes)])
            self.unsound([[(0,)] for pane in range(panes)])
            self.unsound([[(0, 0, -1, -1, 0)] for pane in range(panes)])
            self.unsound(blank_stone(panes, 9))
            self.unsound(blank_stone(panes, 10))

    def test_panes_of_unlike_length(self):
        for panes in range(2, 9):
            for pane in range(panes):
                for rows in (1, 3, 8):
                    stone = blank_stone(panes, 2)
                    stone[pane] = blank_stone(1, rows)[0]
                    self.unsound(stone)
                stone = blank_stone(panes, 2)
                stone[pane] = []
                self.unsound(stone)
                stone[pane] = [(0,)]
                self.unsound(stone)

    def test_panes_of_another_kind(self):
        for pane in range(2):
            for other in WEIRD + (0, 1, True, tuple(self.stone[pane]), dict(enumerate(self.stone[pane]))):
                self.unsound([other if number == pane else self.stone[number] for number in range(2)])
                self.unsound([other])
        self.unsound(["abcd", self.stone[1]])
        self.unsound(["abcd", "abcd"])
        self.unsound([(0, 0, -1, -1, 0), (0,)])

    def test_things_of_another_kind(self):
        for pane, place in things_of(self.stone):
            for other in WEIRD + (0, 1, -1, True, False, self.stone):
                self.unsound(with_thing(self.stone, pane, place, other))
            self.unsound(with_thing(self.stone, pane, place, list(self.stone[pane][place])))
            self.unsound(with_thing(self.stone, pane, place, self.stone[pane][place] + (0,)))
            self.unsound(with_thing(self.stone, pane, place, self.stone[pane][place][:-1]))

    def test_seals_and_records_at_one_anothers_places(self):
        for pane in range(2):
            self.unsound(with_thing(self.stone, pane, 3, (0, 0, -1, -1, 0)))
            for place in range(3):
                self.unsound(with_thing(self.stone, pane, place, (0,)))
            self.unsound([one[::-1] if number == pane else one for number, one in enumerate(self.stone)])

    def test_numbers_of_another_kind(self):
        for pane, place in things_of(self.stone):
            for index in range(len(self.stone[pane][place])):
                for other in WEIRD + (True, False):
                    self.unsound(with_number(self.stone, pane, place, index, other))

    def test_truths_that_equal_the_number_in_whose_place_they_stand(self):
        ones = [[(1, 1, 1, 1, 1), (1,)], [(1, 0, 1, 1, 1), (1,)]]
        self.sound(ones)
        for pane, place in things_of(ones):
            for index in range(len(ones[pane][place])):
                self.unsound(with_number(ones, pane, place, index, bool(ones[pane][place][index])))

    def test_seals_beyond_their_bounds(self):
        for pane in range(2):
            for number in (-1, -2, -GREAT):
                self.unsound(with_thing(self.stone, pane, 3, (number,)))
            for number in (0, 1, 2, 17, GREAT):
                self.sound(with_thing(self.stone, pane, 3, (number,)))

    def test_nexts_beyond_their_bounds(self):
        for box in range(6):
            for following in (-1, -2, -6, 6, 7, 100, GREAT, -GREAT):
                self.unsound(with_number(self.stone, box % 2, box // 2, 1, following))
        for loose in (2, 3):
            for following in range(6):
                self.sound(with_record(self.stone, loose, (1, following, -1, -1, 0)))

    def test_nexts_in_every_size(self):
        for panes, rows in SIZES:
            boxes = panes * rows
            stone = blank_stone(panes, rows)
            for following in (-1, boxes, boxes + 1, boxes + panes):
                self.unsound(with_record(stone, 0, (0, following, -1, -1, 0)))
                self.unsound(with_record(stone, boxes - 1, (0, following, -1, -1, 0)))
            if boxes > 1:
                self.sound(with_record(strung(panes, rows, [boxes - 1]), 1, (7, 0, -1, 3, 0)))

    def test_was_and_now_beyond_their_bounds(self):
        for box in range(6):
            for index in (2, 3):
                for number in (-2, -3, -GREAT):
                    self.unsound(with_number(self.stone, box % 2, box // 2, index, number))
                for number in (0, 1, 2, GREAT):
                    self.sound(with_number(self.stone, box % 2, box // 2, index, number))
            self.sound(with_number(self.stone, box % 2, box // 2, 2, -1))

    def test_ages_beyond_their_bounds(self):
        for box in range(6):
            for age in (-1, -2, -GREAT):
                self.unsound(with_number(self.stone, box % 2, box // 2, 4, age))
            for age in (0, 1, 2, 50, GREAT):
                self.sound(with_number(self.stone, box % 2, box // 2, 4, age))

    def test_a_string_that_does_not_end(self):
        for last, following in ((5, 5), (5, 1), (5, 4), (1, 1), (1, 4), (4, 4)):
            record = self.stone[last % 2][last // 2]
            self.unsound(with_record(self.stone, last, record[:1] + (following,) + record[2:]))

    def test_loose_boxes_in_a_ring_are_no_matter(self):
        stone = with_record(self.stone, 2, (3, 3, -1, -1, 0))
        self.sound(with_record(stone, 3, (3, 2, -1, -1, 0)))
        self.sound(with_record(stone, 3, (3, 3, -1, -1, 0)))
        self.sound(with_record(stone, 3, (3, 4, -1, -1, 0)))

    def test_keys_that_do_not_rise(self):
        for keys in itertools.product((-2, -1, 0, 1), repeat=3):
            rise = keys[0] < keys[1] < keys[2]
            self.assertIs(is_sound(strung(2, 3, [4, 1, 5], keys)), rise, keys)
        self.unsound(strung(2, 2, [1, 2], [5, 5]))
        self.unsound(strung(2, 2, [1, 2], [10, 9]))
        self.sound(strung(2, 2, [2, 1], [9, 10]))
        self.sound(strung(2, 2, [2, 1], [-10, -9]))
        self.sound(strung(2, 2, [2, 1], [-GREAT, GREAT]))

    def test_keys_of_other_boxes_may_be_any(self):
        for key in (-GREAT, -8, -7, 0, 20, 21, GREAT):
            self.sound(with_record(self.stone, 0, (key, 4, -1, -1, 0)))
            self.sound(with_record(self.stone, 2, (key, 0, -1, 3, 0)))
            self.sound(with_record(self.stone, 2, (key, 1, -1, 3, 0)))

    def test_keys_count_though_nothing_is_found_there(self):
        stone = with_record(self.stone, 1, (-7, 5, -1, -1, 3))
        self.unsound(stone)
        self.sound(with_record(self.stone, 1, (-6, 5, -1, -1, 3)))

    def test_age_0_and_no_worth(self):
        for box in (4, 1, 5):
            record = self.stone[box % 2][box // 2]
            self.unsound(with_record(self.stone, box, record[:2] + (-1, -1, 0)))
            self.unsound(with_record(self.stone, box, record[:2] + (6, -1, 0)))
            self.sound(with_record(self.stone, box, record[:2] + (-1, 0, 0)))
            for age in (1, 2, 3):
                self.sound(with_record(self.stone, box, record[:2] + (-1, -1, age)))
                self.sound(with_record(self.stone, box, record[:2] + (6, -1, age)))
        for box in (0, 2, 3):
            record = self.stone[box % 2][box // 2]
            self.sound(with_record(self.stone, box, record[:2] + (6, -1, 0)))

    def test_all_small_stones(self):
        nexts = itertools.product(range(4), repeat=4)
        kinds = ((1, -1, 0), (2, 0, 0), (3, 0, 0), (2, -1, 5))
        for following in nexts:
            for chosen in itertools.product(kinds, repeat=3):
                records = [(9, following[0], -1, -1, 0)]
                for number, (key, now, age) in enumerate(chosen):
                    records.append((key, following[number + 1], -1, now, age))
                stone = [[records[0], records[2], (0,)], [records[1], records[3], (5,)]]
                self.assertIs(is_sound(stone), is_sound_by_words(stone), stone)

    def test_a_list_that_holds_itself(self):
        ring = []
        ring.append(ring)
        self.unsound(ring)
        ring.append(ring)
        self.unsound(ring)

    def test_texts_and_numbers_in_lists(self):
        for thing in ([1], [[1]], [[1, 2]], [["a", "b"]], [[None, None]], [[(), ()]], [[[], []]], [[(0,), (0,)]]):
            self.unsound(thing)


if __name__ == "__main__":
    unittest.main()
