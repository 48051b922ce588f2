import copy
import itertools
import random
import unittest

from ripestone.bench import Bench
from ripestone.errors import Full, NoChange
from ripestone.records import blank_stone
from ripestone.strings import is_sound, string_of
from ripestone.weaver import Weaver
from tests.ground import (
    PlainWeaver, closed_by_words, closed_sets, is_sound_by_words, laid_by_words, record_by_words, sound_by_chance,
    spoil, string_by_words, strung, told_often, told_of_weaver,
)

SIZES = [(panes, rows) for panes in range(1, 9) for rows in range(1, 9)]
GREAT = 10**60 - 1


def three_strung():
    """Of 2 panes with 3 boxes each: the string is 4, 1, 5 with the keys 10, 20, 30; 2 and 3 are loose."""
    return strung(2, 3, [4, 1, 5], [10, 20, 30])


def new_changes(weaver, act):
    """What the act told, and the changes that it asked for."""
    many = len(weaver.bench.changes())
    told = act()
    return told, weaver.bench.changes()[many:]


class MadeTest(unittest.TestCase):
    def check_new(self, stone):
        weaver = Weaver(copy.deepcopy(stone))
        boxes = range(len(stone) * (len(stone[0]) - 1))
        string = string_by_words(stone)
        nothing = [None] * len(boxes)
        self.assertEqual(weaver.order(), string)
        self.assertEqual(weaver.free(), [box for box in boxes if box != 0 and box not in string])
        self.assertEqual([weaver.record_of(box) for box in boxes], [record_by_words(stone, box) for box in boxes])
        self.assertEqual([weaver.coming_in(box) for box in boxes], nothing)
        self.assertEqual([weaver.going_out(box) for box in boxes], nothing)
        self.assertEqual([weaver.last_change(box) for box in boxes], nothing)
        keys = {record_by_words(stone, box)[0]: box for box in string}
        for key in [record_by_words(stone, box)[0] for box in boxes] + list(range(-31, 31)):
            self.assertEqual(weaver.box_of(key), keys.get(key))
        self.assertIsInstance(weaver.bench, Bench)
        self.assertEqual(weaver.bench.stone(), stone)
        self.assertEqual(weaver.bench.changes(), [])

    def test_of_blank_stones(self):
        for panes, rows in SIZES:
            self.check_new(blank_stone(panes, rows))

    def test_by_hand(self):
        weaver = Weaver(three_strung())
        self.assertEqual(weaver.order(), [4, 1, 5])
        self.assertEqual(weaver.free(), [2, 3])
        self.assertEqual(weaver.record_of(0), (0, 4, -1, 0, 0))
        self.assertEqual(weaver.record_of(4), (10, 1, -1, 4, 0))
        self.assertEqual(weaver.record_of(5), (30, 0, -1, 5, 0))
        self.assertEqual(weaver.record_of(2), (0, 0, -1, -1, 0))
        self.assertEqual([weaver.box_of(key) for key in (10, 20, 30)], [4, 1, 5])
        self.assertEqual([weaver.box_of(key) for key in (0, 9, 11, -10, 4)], [None] * 5)

    def test_all_boxes_in_any_order(self):
        for boxes in itertools.permutations(range(1, 5)):
            self.check_new(strung(5, 1, list(boxes)))
            self.check_new(strung(1, 5, list(boxes)))

    def test_of_any_sound_stones(self):
        chance = random.Random(20)
        for panes, rows in SIZES:
            self.check_new(sound_by_chance(chance, panes, rows))

    def test_keys_of_the_head_and_of_loose_boxes_are_not_in_the_string(self):
        stone = three_strung()
        stone[0][0] = (15, 4, 1, 2, 3)
        stone[0][1] = (25, 4, -1, 2, 0)
        weaver = Weaver(stone)
        self.assertIs(weaver.box_of(15), None)
        self.assertIs(weaver.box_of(25), None)
        stone[0][1] = (20, 4, -1, 2, 0)
        self.assertEqual(Weaver(stone).box_of(20), 1)

    def test_a_worth_of_none_is_in_the_string_all_the_same(self):
        stone = three_strung()
        stone[1][0] = (20, 5, -1, -1, 7)
        weaver = Weaver(stone)
        self.assertEqual(weaver.order(), [4, 1, 5])
        self.assertEqual(weaver.box_of(20), 1)

    def test_a_box_0_is_not_taken_for_none(self):
        weaver = Weaver(blank_stone(2, 2))
        self.assertIs(weaver.box_of(0), None)
        self.assertIs(weaver.last_change(0), None)
        weaver.enter(0, -1, 5, 0)
        self.assertEqual(weaver.box_of(0), 1)
        self.assertEqual(weaver.last_change(1), 0)

    def test_great_keys(self):
        weaver = Weaver(strung(2, 2, [3, 1], [-GREAT, GREAT]))
        self.assertEqual(weaver.box_of(GREAT), 1)
        self.assertEqual(weaver.box_of(-GREAT), 3)
        self.assertIs(weaver.box_of(GREAT - 1), None)


class EnterTest(unittest.TestCase):
    def test_into_an_empty_string(self):
        weaver = Weaver(blank_stone(2, 2))
        told, changes = new_changes(weaver, lambda: weaver.enter(7, -1, 5, 0))
        self.assertEqual(told, (1, 1))
        self.assertIs(type(told), tuple)
        self.assertEqual(changes, [(1, 0, (7, 0, -1, 5, 0), ()), (0, 0, (0, 1, -1, -1, 0), (0,))])
        self.assertEqual(weaver.order(), [1])
        self.assertEqual(weaver.free(), [2, 3])
        self.assertEqual(weaver.box_of(7), 1)
        self.assertEqual(weaver.coming_in(1), 1)
        self.assertIs(weaver.going_out(1), None)
        self.assertEqual(weaver.last_change(1), 0)
        self.assertEqual(weaver.last_change(0), 1)
        self.assertIs(weaver.coming_in(0), None)
        self.assertIs(weaver.going_out(0), None)
        self.assertEqual(weaver.record_of(1), (7, 0, -1, 5, 0))
        self.assertEqual(weaver.record_of(0), (0, 1, -1, -1, 0))

    def test_at_the_beginning(self):
        weaver = Weaver(three_strung())
        told, changes = new_changes(weaver, lambda: weaver.enter(5, 3, 8, 6))
        self.assertEqual(told, (2, 1))
        self.assertEqual(changes, [(0, 1, (5, 4, 3, 8, 6), ()), (0, 0, (0, 2, -1, 0, 0), (0,))])
        self.assertEqual(weaver.order(), [2, 4, 1, 5])
        self.assertEqual(weaver.free(), [3])

    def test_amid_the_string(self):
        weaver = Weaver(three_strung())
        told, changes = new_changes(weaver, lambda: weaver.enter(25, -1, -1, 6))
        self.assertEqual(told, (2, 1))
        self.assertEqual(changes, [(0, 1, (25, 5, -1, -1, 6), ()), (1, 0, (20, 2, -1, 1, 0), (0,))])
        self.assertEqual(weaver.order(), [4, 1, 2, 5])
        self.assertEqual(weaver.free(), [3])
        self.assertEqual(weaver.last_change(1), 1)
        self.assertEqual(weaver.coming_in(2), 1)
        self.assertIs(weaver.coming_in(1), None)
        self.assertIs(weaver.last_change(0), None)

    def test_at_the_end(self):
        weaver = Weaver(three_strung())
        told, changes = new_changes(weaver, lambda: weaver.enter(31, 0, 0, 0))
        self.assertEqual(told, (2, 1))
        self.assertEqual(changes, [(0, 1, (31, 0, 0, 0, 0), ()), (1, 2, (30, 2, -1, 5, 0), (0,))])
        self.assertEqual(weaver.order(), [4, 1, 5, 2])

    def test_the_heads_record_is_kept_but_for_its_next(self):
        stone = three_strung()
        stone[0][0] = (99, 4, 3, 2, 1)
        weaver = Weaver(stone)
        told, changes = new_changes(weaver, lambda: weaver.enter(5, -1, 8, 0))
        self.assertEqual(changes, [(0, 1, (5, 4, -1, 8, 0), ()), (0, 0, (99, 2, 3, 2, 1), (0,))])
        self.assertEqual(weaver.order(), [2, 4, 1, 5])

    def test_the_heads_key_is_not_weighed(self):
        for head in (-50, 15, 50):
            for key, order in ((5, [2, 4, 1, 5]), (15, [4, 2, 1, 5]), (25, [4, 1, 2, 5]), (45, [4, 1, 5, 2])):
                stone = three_strung()
                stone[0][0] = (head, 4, -1, -1, 0)
                weaver = Weaver(stone)
                weaver.enter(key, -1, 8, 0)
                self.assertEqual(weaver.order(), order)

    def test_the_record_of_the_box_ahead_is_kept_but_for_its_next(self):
        stone = three_strung()
        stone[1][0] = (20, 5, 6, -1, 9)
        weaver = Weaver(stone)
        told, changes = new_changes(weaver, lambda: weaver.enter(25, -1, 8, 0))
        self.assertEqual(changes[1], (1, 0, (20, 2, 6, -1, 9), (0,)))

    def test_the_least_free_box_is_taken(self):
        weaver = Weaver(strung(2, 4, [5, 3, 2], [10, 20, 30]))
        taken = [weaver.enter(key, -1, 1, 0)[0] for key in (50, 5, 15, 25)]
        self.assertEqual(taken, [1, 4, 6, 7])
        self.assertEqual(weaver.order(), [4, 5, 6, 3, 7, 2, 1])
        self.assertEqual(weaver.free(), [])

    def test_the_least_free_box_is_the_least_as_a_number(self):
        weaver = Weaver(strung(8, 8, list(range(1, 63)), list(range(1, 63))))
        weaver.leave(10)
        weaver.leave(9)
        weaver.leave(62)
        self.assertEqual(weaver.free(), [9, 10, 62, 63])
        self.assertEqual([weaver.enter(100 + count, -1, 1, 0)[0] for count in range(4)], [9, 10, 62, 63])

    def test_what_the_loose_box_held_does_not_count(self):
        stone = three_strung()
        stone[0][1] = (500, 5, 4, 4, 4)
        weaver = Weaver(stone)
        told, changes = new_changes(weaver, lambda: weaver.enter(12, -1, 8, 0))
        self.assertEqual(told, (2, 1))
        self.assertEqual(changes, [(0, 1, (12, 1, -1, 8, 0), ()), (0, 2, (10, 2, -1, 4, 0), (0,))])

    def test_the_coming_in_of_the_box_ahead_is_needed(self):
        weaver = Weaver(blank_stone(3, 3))
        self.assertEqual(weaver.enter(10, -1, 1, 0), (1, 1))
        told, changes = new_changes(weaver, lambda: weaver.enter(20, -1, 2, 0))
        self.assertEqual(told, (2, 3))
        # The change of box 1's record needs the one before it of its place, 0, too.
        self.assertEqual(changes, [(2, 0, (20, 0, -1, 2, 0), ()), (1, 0, (10, 2, -1, 1, 0), (0, 1, 2))])
        told, changes = new_changes(weaver, lambda: weaver.enter(15, -1, 3, 0))
        self.assertEqual(told, (3, 5))
        self.assertEqual(changes, [(0, 1, (15, 2, -1, 3, 0), ()), (1, 0, (10, 3, -1, 1, 0), (1, 3, 4))])
        told, changes = new_changes(weaver, lambda: weaver.enter(5, -1, 4, 0))
        self.assertEqual(told, (4, 7))
        self.assertEqual(changes, [(1, 1, (5, 1, -1, 4, 0), ()), (0, 0, (0, 4, -1, -1, 0), (1, 6))])
        self.assertEqual(weaver.order(), [4, 1, 3, 2])

    def test_further_needs_are_those_of_the_second_change_alone(self):
        weaver = Weaver(three_strung())
        weaver.rewrite(4, -1, 9, 0)
        weaver.rewrite(5, -1, 9, 0)
        weaver.rewrite(4, -1, 8, 0)
        told, changes = new_changes(weaver, lambda: weaver.enter(25, -1, 1, 0, [1, 0, 1]))
        self.assertEqual(told, (2, 4))
        self.assertEqual([change[3] for change in changes], [(), (0, 1, 3)])
        told, changes = new_changes(weaver, lambda: weaver.enter(5, -1, 1, 0, needs=[4, 2]))
        self.assertEqual(told, (3, 6))
        self.assertEqual([change[3] for change in changes], [(), (2, 4, 5)])

    def test_further_needs_left_out_none_and_empty(self):
        for more in ((), (None,), ([],)):
            weaver = Weaver(three_strung())
            weaver.rewrite(4, -1, 9, 0)
            told, changes = new_changes(weaver, lambda: weaver.enter(25, -1, 1, 0, *more))
            self.assertEqual([change[3] for change in changes], [(), (1,)])

    def test_full(self):
        for weaver in (Weaver(blank_stone(1, 1)), Weaver(strung(2, 2, [3, 1, 2], [10, 20, 30]))):
            before = told_of_weaver(weaver)
            for key in (5, 15, 25, 35):
                for needs in (None, []):
                    with self.assertRaises(Full) as caught:
                        weaver.enter(key, -1, 1, 0, needs)
                    self.assertIs(type(caught.exception), Full)
                    self.assertEqual(told_of_weaver(weaver), before)
                    self.assertIs(weaver.box_of(key), None)

    def test_full_behind_enterings_till_a_box_leaves(self):
        weaver = Weaver(blank_stone(2, 2))
        for key in (30, 10, 20):
            weaver.enter(key, -1, 1, 0)
        before = told_of_weaver(weaver)
        with self.assertRaises(Full):
            weaver.enter(15, -1, 1, 0, [0])
        self.assertEqual(told_of_weaver(weaver), before)
        weaver.rewrite(2, -1, 3, 0)
        with self.assertRaises(Full):
            weaver.enter(15, -1, 1, 0)
        weaver.leave(2)
        self.assertEqual(weaver.enter(15, -1, 1, 0)[0], 2)
        with self.assertRaises(Full):
            weaver.enter(40, -1, 1, 0)

    def test_carvings_give_no_box_back_and_take_none(self):
        weaver = Weaver(blank_stone(2, 2))
        weaver.enter(10, -1, 1, 0)
        weaver.leave(1)
        weaver.enter(10, -1, 1, 0)
        before = told_of_weaver(weaver)
        for pane in (0, 1, 0, 1, 0, 1):
            weaver.bench.carve(pane)
            self.assertEqual(told_of_weaver(weaver), before)

    def test_great_numbers(self):
        weaver = Weaver(strung(2, 2, [3], [0]))
        weaver.enter(-GREAT, GREAT, GREAT - 1, GREAT)
        weaver.enter(GREAT, -1, GREAT, 0)
        self.assertEqual(weaver.order(), [1, 3, 2])
        self.assertEqual(weaver.record_of(1), (-GREAT, 3, GREAT, GREAT - 1, GREAT))
        self.assertEqual(weaver.record_of(2), (GREAT, 0, -1, GREAT, 0))


class RewriteTest(unittest.TestCase):
    def test_of_the_first_stone(self):
        weaver = Weaver(three_strung())
        told, changes = new_changes(weaver, lambda: weaver.rewrite(1, 3, 4, 5))
        self.assertEqual(told, 0)
        self.assertIs(type(told), int)
        self.assertEqual(changes, [(1, 0, (20, 5, 3, 4, 5), ())])
        self.assertEqual(weaver.record_of(1), (20, 5, 3, 4, 5))
        self.assertEqual(weaver.last_change(1), 0)
        self.assertIs(weaver.coming_in(1), None)
        self.assertIs(weaver.going_out(1), None)
        self.assertEqual(weaver.order(), [4, 1, 5])
        self.assertEqual(weaver.free(), [2, 3])
        self.assertEqual(weaver.box_of(20), 1)

    def test_of_one_that_came_in(self):
        weaver = Weaver(three_strung())
        weaver.enter(25, -1, 1, 0)
        told, changes = new_changes(weaver, lambda: weaver.rewrite(2, 1, 7, 9))
        self.assertEqual(told, 2)
        self.assertEqual(changes, [(0, 1, (25, 5, 1, 7, 9), (0, 1))])
        self.assertEqual(weaver.last_change(2), 2)
        self.assertEqual(weaver.coming_in(2), 1)

    def test_the_next_is_the_newest_one(self):
        weaver = Weaver(three_strung())
        weaver.enter(25, -1, 1, 0)
        told, changes = new_changes(weaver, lambda: weaver.rewrite(1, -1, 7, 0))
        self.assertEqual(changes, [(1, 0, (20, 2, -1, 7, 0), (1,))])
        weaver.leave(2)
        told, changes = new_changes(weaver, lambda: weaver.rewrite(1, -1, 8, 0))
        self.assertEqual(changes, [(1, 0, (20, 5, -1, 8, 0), (3,))])

    def test_several_times(self):
        weaver = Weaver(three_strung())
        weaver.enter(25, -1, 1, 0)
        needs = []
        for number in range(2, 6):
            told, changes = new_changes(weaver, lambda: weaver.rewrite(2, number, number + 1, number + 2))
            self.assertEqual(told, number)
            self.assertEqual(changes[0][2], (25, 5, number, number + 1, number + 2))
            needs.append(changes[0][3])
        self.assertEqual(needs, [(0, 1), (1, 2), (1, 3), (1, 4)])

    def test_the_first_the_last_and_each_other_one(self):
        for box, next_box, key in ((4, 1, 10), (1, 5, 20), (5, 0, 30)):
            weaver = Weaver(three_strung())
            told, changes = new_changes(weaver, lambda: weaver.rewrite(box, -1, -1, 3))
            self.assertEqual(changes, [(box % 2, box // 2, (key, next_box, -1, -1, 3), ())])

    def test_further_needs(self):
        weaver = Weaver(three_strung())
        weaver.enter(25, -1, 1, 0)
        weaver.rewrite(4, -1, 2, 0)
        weaver.rewrite(4, -1, 3, 0)
        for needs, told in (
            (None, (0, 1)), ([], (1, 4)), ([3], (1, 3, 5)), ([3, 2, 3, 0], (0, 1, 2, 3, 6)), ([1, 7, 1], (1, 7)),
        ):
            number = weaver.rewrite(2, -1, 4, 0, needs)
            self.assertEqual(weaver.bench.change(number)[3], told)
        number = weaver.rewrite(5, -1, 4, 0, needs=[8, 0])
        self.assertEqual(weaver.bench.change(number)[3], (0, 8))
        number = weaver.rewrite(1, -1, 4, 0)
        self.assertEqual(weaver.bench.change(number)[3], (1,))

    def test_behind_coming_in_anew_the_newest_coming_in_is_needed(self):
        weaver = Weaver(three_strung())
        weaver.enter(25, -1, 1, 0)
        weaver.leave(2)
        self.assertEqual(weaver.enter(5, -1, 2, 0), (2, 4))
        told, changes = new_changes(weaver, lambda: weaver.rewrite(2, -1, 3, 0))
        self.assertEqual(changes, [(0, 1, (5, 4, -1, 3, 0), (3, 4))])

    def test_carvings_change_nothing_of_what_is_needed(self):
        weaver = Weaver(three_strung())
        weaver.enter(25, -1, 1, 0)
        for pane in (0, 1, 0, 1):
            weaver.bench.carve(pane)
        told, changes = new_changes(weaver, lambda: weaver.rewrite(2, -1, 3, 0))
        self.assertEqual(changes, [(0, 1, (25, 5, -1, 3, 0), (0, 1))])


class LeaveTest(unittest.TestCase):
    def test_the_first_box(self):
        weaver = Weaver(three_strung())
        told, changes = new_changes(weaver, lambda: weaver.leave(4))
        self.assertEqual(told, 0)
        self.assertIs(type(told), int)
        self.assertEqual(changes, [(0, 0, (0, 1, -1, 0, 0), ())])
        self.assertEqual(weaver.order(), [1, 5])
        self.assertEqual(weaver.free(), [2, 3, 4])
        self.assertEqual(weaver.going_out(4), 0)
        self.assertIs(weaver.coming_in(4), None)
        self.assertIs(weaver.last_change(4), None)
        self.assertEqual(weaver.last_change(0), 0)
        self.assertIs(weaver.going_out(0), None)
        self.assertIs(weaver.box_of(10), None)
        self.assertEqual(weaver.record_of(4), (10, 1, -1, 4, 0))

    def test_one_amid_the_string(self):
        weaver = Weaver(three_strung())
        told, changes = new_changes(weaver, lambda: weaver.leave(1))
        self.assertEqual(changes, [(0, 2, (10, 5, -1, 4, 0), ())])
        self.assertEqual(weaver.order(), [4, 5])
        self.assertEqual(weaver.free(), [1, 2, 3])
        self.assertEqual(weaver.last_change(4), 0)
        self.assertEqual(weaver.going_out(1), 0)
        self.assertIs(weaver.going_out(4), None)

    def test_the_last_box(self):
        weaver = Weaver(three_strung())
        told, changes = new_changes(weaver, lambda: weaver.leave(5))
        self.assertEqual(changes, [(1, 0, (20, 0, -1, 1, 0), ())])
        self.assertEqual(weaver.order(), [4, 1])
        self.assertEqual(weaver.free(), [2, 3, 5])

    def test_all_boxes(self):
        for order in itertools.permutations([4, 1, 5]):
            weaver = Weaver(three_strung())
            for box in order:
                weaver.leave(box)
            self.assertEqual(weaver.order(), [])
            self.assertEqual(weaver.free(), [1, 2, 3, 4, 5])
            self.assertEqual(weaver.record_of(0), (0, 0, -1, 0, 0))
            self.assertEqual([weaver.going_out(box) for box in order], [0, 1, 2])

    def test_the_heads_record_is_kept_but_for_its_next(self):
        stone = three_strung()
        stone[0][0] = (99, 4, 3, 2, 1)
        weaver = Weaver(stone)
        told, changes = new_changes(weaver, lambda: weaver.leave(4))
        self.assertEqual(changes, [(0, 0, (99, 1, 3, 2, 1), ())])

    def test_behind_a_rewriting(self):
        weaver = Weaver(three_strung())
        weaver.rewrite(1, -1, 7, 0)
        weaver.rewrite(1, -1, 8, 0)
        weaver.rewrite(4, -1, 9, 0)
        told, changes = new_changes(weaver, lambda: weaver.leave(1))
        self.assertEqual(changes, [(0, 2, (10, 5, -1, 9, 0), (1, 2))])

    def test_behind_an_entering(self):
        weaver = Weaver(three_strung())
        weaver.enter(25, -1, 1, 0)
        told, changes = new_changes(weaver, lambda: weaver.leave(2))
        # The last change of box 2 is 0; its coming in, 1, is the last one of box 1, the box ahead.
        self.assertEqual(changes, [(1, 0, (20, 5, -1, 1, 0), (0, 1))])
        self.assertEqual(weaver.coming_in(2), 1)
        self.assertEqual(weaver.going_out(2), 2)

    def test_behind_an_entering_next_to_it(self):
        weaver = Weaver(three_strung())
        weaver.enter(25, -1, 1, 0)
        told, changes = new_changes(weaver, lambda: weaver.leave(1))
        self.assertEqual(changes, [(0, 2, (10, 2, -1, 4, 0), (1,))])
        told, changes = new_changes(weaver, lambda: weaver.leave(5))
        # Box 2 is the box ahead: its coming in is 1, its last change is 0.
        self.assertEqual(changes, [(0, 1, (25, 0, -1, 1, 0), (0, 1))])
        self.assertEqual(weaver.order(), [4, 2])

    def test_the_coming_in_of_the_box_ahead_is_needed(self):
        weaver = Weaver(strung(3, 3, [4], [10]))
        self.assertEqual(weaver.enter(5, -1, 1, 0), (1, 1))
        weaver.rewrite(1, -1, 2, 0)
        weaver.rewrite(4, -1, 3, 0)
        told, changes = new_changes(weaver, lambda: weaver.leave(4))
        self.assertEqual(changes, [(1, 0, (5, 0, -1, 2, 0), (1, 2, 3))])

    def test_the_coming_in_of_the_box_itself_need_not_be_among_the_needs(self):
        weaver = Weaver(three_strung())
        weaver.enter(35, -1, 1, 0)
        weaver.rewrite(2, -1, 2, 0)
        weaver.leave(5)
        told, changes = new_changes(weaver, lambda: weaver.leave(2))
        # 3 is the leaving of box 5, the last one of box 1; 2 is the rewriting of box 2.
        self.assertEqual(changes, [(1, 0, (20, 0, -1, 1, 0), (2, 3))])

    def test_further_needs(self):
        for needs, more in ((None, ()), ([], ()), ([0], (0,)), ([2, 0, 2], (0, 2)), ([3, 1], (1, 3))):
            weaver = Weaver(three_strung())
            weaver.rewrite(5, -1, 1, 0)
            weaver.rewrite(5, -1, 2, 0)
            weaver.rewrite(4, -1, 3, 0)
            weaver.rewrite(1, -1, 4, 0)
            told, changes = new_changes(weaver, lambda: weaver.leave(1, needs))
            self.assertEqual(changes, [(0, 2, (10, 5, -1, 3, 0), tuple(sorted({2, 3, *more})))])
        weaver = Weaver(three_strung())
        weaver.rewrite(5, -1, 1, 0)
        weaver.leave(4, needs=[0])
        self.assertEqual(weaver.bench.change(1)[3], (0,))

    def test_the_box_is_taken_again(self):
        weaver = Weaver(three_strung())
        weaver.leave(1)
        told, changes = new_changes(weaver, lambda: weaver.enter(40, -1, 6, 0))
        self.assertEqual(told, (1, 2))
        self.assertEqual(changes, [(1, 0, (40, 0, -1, 6, 0), (0,)), (1, 2, (30, 1, -1, 5, 0), (1,))])
        self.assertEqual(weaver.order(), [4, 5, 1])
        self.assertEqual(weaver.free(), [2, 3])
        self.assertEqual(weaver.going_out(1), 0)
        self.assertEqual(weaver.coming_in(1), 2)
        self.assertEqual(weaver.box_of(40), 1)
        self.assertIs(weaver.box_of(20), None)

    def test_the_same_key_again(self):
        weaver = Weaver(three_strung())
        weaver.leave(1)
        told, changes = new_changes(weaver, lambda: weaver.enter(20, -1, 6, 0))
        self.assertEqual(told, (1, 2))
        self.assertEqual(changes, [(1, 0, (20, 5, -1, 6, 0), (0,)), (0, 2, (10, 1, -1, 4, 0), (0, 1))])
        self.assertEqual(weaver.order(), [4, 1, 5])

    def test_the_newest_going_out_is_needed(self):
        weaver = Weaver(strung(2, 2, [1], [10]))
        told = []
        for count in range(3):
            weaver.leave(1)
            told.append(weaver.going_out(1))
            box, coming = weaver.enter(10, -1, count, 0)
            self.assertEqual(box, 1)
            self.assertEqual(coming, weaver.coming_in(1))
            self.assertIn(weaver.going_out(1), weaver.bench.change(coming - 1)[3])
        self.assertEqual(told, [0, 3, 6])
        self.assertEqual([change[3] for change in weaver.bench.changes()][3:6], [(1, 2), (1, 3), (3, 4)])

    def test_further_needs_are_not_needed_by_the_box_as_it_is_taken_again(self):
        weaver = Weaver(three_strung())
        weaver.rewrite(5, -1, 1, 0)
        weaver.leave(1, [0])
        told, changes = new_changes(weaver, lambda: weaver.enter(5, -1, 6, 0))
        self.assertEqual(changes[0], (1, 0, (5, 4, -1, 6, 0), (1,)))

    def test_the_box_ahead_is_the_one_in_memory(self):
        weaver = Weaver(three_strung())
        weaver.leave(4)
        weaver.leave(1)
        told, changes = new_changes(weaver, lambda: weaver.leave(5))
        self.assertEqual(changes, [(0, 0, (0, 0, -1, 0, 0), (1,))])


class WrongNeedsTest(unittest.TestCase):
    def test_no_such_change(self):
        weaver = Weaver(three_strung())
        weaver.enter(25, -1, 1, 0)
        weaver.rewrite(2, -1, 2, 0)
        before = told_of_weaver(weaver)
        for needs in ([3], [4], [-1], [0, -1], [0, 3, 1], [7, 0]):
            for act in (
                lambda: weaver.enter(15, -1, 3, 0, needs),
                lambda: weaver.rewrite(2, -1, 3, 0, needs),
                lambda: weaver.leave(2, needs),
            ):
                with self.assertRaises(NoChange):
                    act()
                self.assertEqual(told_of_weaver(weaver), before)
        self.assertEqual(weaver.enter(15, -1, 3, 0, [2, 0]), (3, 4))


def act_by_chance(chance, weaver, plain, again):
    """One of the three things, asked of both, and what both told; `again` tells the further needs another way."""
    many = len(plain.changes)
    needs = [chance.randrange(many) for count in range(chance.choice((0, 0, 1, 2)))] if many else []
    order = plain.order()
    keys = [plain.record_of(box)[0] for box in order]
    was, now, age = chance.randrange(-1, 9), chance.randrange(9), chance.choice((0, chance.randrange(9)))
    kind = chance.choice(("enter", "enter", "rewrite", "leave"))
    if kind == "enter" and plain.free():
        key = chance.choice([key for key in range(-9, 19) if key not in keys])
        return weaver.enter(key, was, now, age, again(needs)), plain.enter(key, was, now, age, needs)
    if kind == "rewrite" and order:
        box = chance.choice(order)
        return weaver.rewrite(box, was, now, age, again(needs)), plain.rewrite(box, was, now, age, needs)
    if kind == "leave" and order:
        box = chance.choice(order)
        return weaver.leave(box, again(needs)), plain.leave(box, needs)
    return None, None


class AnyRowTest(unittest.TestCase):
    def check_stone(self, weaver, plain, where):
        stone = weaver.bench.stone()
        settled = weaver.bench.settled()
        self.assertTrue(is_sound(stone), where)
        self.assertTrue(is_sound_by_words(stone), where)
        self.assertTrue(closed_by_words([change[3] for change in weaver.bench.changes()], settled), where)
        self.assertEqual(stone, laid_by_words(plain.first, plain.changes, settled), where)
        self.assertEqual(string_by_words(stone), plain.string_with(settled), where)

    def test_as_the_document_says_it(self):
        for seed in range(80):
            chance = random.Random(seed)
            stone = sound_by_chance(chance, chance.randrange(1, 4), chance.randrange(1, 4))
            weaver = Weaver(copy.deepcopy(stone))
            plain = PlainWeaver(stone)
            for step in range(20):
                told, expected = act_by_chance(chance, weaver, plain, told_often)
                self.assertEqual(told, expected, (seed, step))
                self.assertEqual(told_of_weaver(weaver), plain.told(), (seed, step))
                keys = {plain.record_of(box)[0]: box for box in plain.order()}
                for key in range(-9, 19):
                    self.assertEqual(weaver.box_of(key), keys.get(key), (seed, step))

    def test_carved_amid_it(self):
        for seed in range(80):
            chance = random.Random(1000 + seed)
            stone = sound_by_chance(chance, chance.randrange(1, 5), chance.randrange(1, 4))
            weaver = Weaver(copy.deepcopy(stone))
            plain = PlainWeaver(stone)
            for step in range(30):
                before = weaver.bench.settled()
                if chance.randrange(2):
                    act_by_chance(chance, weaver, plain, list)
                else:
                    weaver.bench.carve(chance.randrange(len(stone)), chance.choice((None, None, 0, 1, 2, 3)))
                self.assertEqual(told_of_weaver(weaver), plain.told(), (seed, step))
                self.assertLessEqual(set(before), set(weaver.bench.settled()))
                self.check_stone(weaver, plain, (seed, step))
            self.carve_to_the_end(chance, weaver, plain)
            self.assertEqual(weaver.bench.waiting(), [])
            self.assertEqual(string_of(weaver.bench.stone()), weaver.order())
            self.assertEqual([weaver.record_of(box) for box in plain.boxes()],
                             [record_by_words(weaver.bench.stone(), box) for box in plain.boxes()])

    def carve_to_the_end(self, chance, weaver, plain):
        for count in range(len(plain.changes) + 1):
            for pane in chance.sample(range(len(plain.first)), len(plain.first)):
                weaver.bench.carve(pane, chance.choice((None, None, 1, 2)))
                self.check_stone(weaver, plain, count)
        for count in range(len(plain.changes) + 1):
            for pane in range(len(plain.first)):
                weaver.bench.carve(pane)

    def test_stroke_by_stroke(self):
        for seed in range(40):
            chance = random.Random(2000 + seed)
            stone = sound_by_chance(chance, 3, 2)
            weaver = Weaver(copy.deepcopy(stone))
            plain = PlainWeaver(stone)
            for step in range(8):
                act_by_chance(chance, weaver, plain, list)
            while weaver.bench.waiting():
                weaver.bench.carve(chance.randrange(3), 1)
                self.check_stone(weaver, plain, seed)
            self.assertEqual(string_of(weaver.bench.stone()), weaver.order())


class AllSmallRowsTest(unittest.TestCase):
    """All rows of a few deeds, and of each all closed sets of its changes: more than any carvings come to."""

    def act(self, weaver, plain, key, worth):
        box = weaver.box_of(key)
        if box is None:
            if weaver.free():
                self.assertEqual(weaver.enter(key, -1, worth, 0), plain.enter(key, -1, worth, 0))
            else:
                self.assertRaises(Full, weaver.enter, key, -1, worth, 0)
        elif worth % 2:
            self.assertEqual(weaver.leave(box), plain.leave(box))
        else:
            self.assertEqual(weaver.rewrite(box, -1, worth, 0), plain.rewrite(box, -1, worth, 0))

    def check_row(self, stone, row):
        weaver = Weaver(copy.deepcopy(stone))
        plain = PlainWeaver(stone)
        for key, worth in row:
            self.act(weaver, plain, key, worth)
        self.assertEqual(told_of_weaver(weaver), plain.told())
        self.check_all_sets(weaver, plain, row)

    def check_all_sets(self, weaver, plain, where):
        changes = weaver.bench.changes()
        for some in closed_sets([change[3] for change in changes]):
            there = laid_by_words(plain.first, changes, some)
            self.assertTrue(is_sound(there), (where, some))
            self.assertEqual(string_by_words(there), plain.string_with(some), (where, some))

    def test_of_a_blank_stone(self):
        for row in itertools.product(((1, 1), (2, 1), (2, 2), (3, 1)), repeat=4):
            self.check_row(blank_stone(2, 2), row)

    def test_of_stones_with_strings(self):
        for boxes, keys in (([3, 1], [1, 3]), ([2], [2]), ([2, 3, 1], [1, 2, 3])):
            for row in itertools.product(((1, 1), (2, 1), (3, 1), (3, 2)), repeat=3):
                self.check_row(strung(2, 2, boxes, keys), row)

    def test_of_few_boxes_taken_again_and_again(self):
        for row in itertools.product(((1, 1), (2, 1)), repeat=6):
            self.check_row(blank_stone(2, 1), row)
            self.check_row(blank_stone(3, 1), row)

    def test_by_chance(self):
        for seed in range(60):
            chance = random.Random(3000 + seed)
            stone = sound_by_chance(chance, chance.randrange(2, 5), 3)
            weaver = Weaver(copy.deepcopy(stone))
            plain = PlainWeaver(stone)
            for step in range(6):
                act_by_chance(chance, weaver, plain, list)
            self.check_all_sets(weaver, plain, seed)


class ManyTest(unittest.TestCase):
    def test_many_changes(self):
        weaver = Weaver(blank_stone(8, 8))
        for key in range(63):
            weaver.enter(key * 37 % 63, -1, key, 0)
        for count in range(1500):
            weaver.rewrite(count % 63 + 1, -1, count, 0)
        for count in range(1000):
            key = count * 11 % 63
            weaver.leave(weaver.box_of(key))
            weaver.enter(key, -1, count, 0)
        self.assertEqual(len(weaver.bench.changes()), 126 + 1500 + 3000)
        self.assertEqual([weaver.record_of(box)[0] for box in weaver.order()], list(range(63)))
        self.assertEqual(weaver.free(), [])
        for count in range(100):
            weaver.bench.carve(count % 8)
            self.assertTrue(is_sound(weaver.bench.stone()))


class OwnWeaverTest(unittest.TestCase):
    def test_the_stone_handed_in(self):
        stone = three_strung()
        weaver = Weaver(stone)
        weaver.enter(25, -1, 1, 0)
        weaver.leave(4)
        weaver.bench.carve(0)
        weaver.bench.carve(1)
        self.assertEqual(stone, three_strung())
        before = (told_of_weaver(weaver), weaver.bench.stone())
        spoil(stone)
        self.assertEqual((told_of_weaver(weaver), weaver.bench.stone()), before)
        weaver.leave(2)
        weaver.enter(7, -1, 1, 0)
        self.assertEqual(weaver.order(), [2, 1, 5])

    def test_panes_handed_in_that_are_one(self):
        pane = [(0, 0, -1, -1, 0), (0,)]
        weaver = Weaver([pane, pane, pane])
        weaver.enter(5, -1, 1, 0)
        for one in (1, 0):
            weaver.bench.carve(one)
        self.assertEqual(weaver.bench.stone(), [[(0, 1, -1, -1, 0), (0,)], [(5, 0, -1, 1, 0), (0,)], pane])
        self.assertEqual(pane, [(0, 0, -1, -1, 0), (0,)])

    def test_the_needs_handed_in(self):
        acts = (
            lambda weaver, needs: weaver.enter(25, -1, 1, 0, needs),
            lambda weaver, needs: weaver.rewrite(1, -1, 1, 0, needs),
            lambda weaver, needs: weaver.leave(5, needs),
        )
        for act in acts:
            for needs in ([2, 0, 2], [1], []):
                weaver = Weaver(three_strung())
                for count in range(3):
                    weaver.rewrite(4, -1, count, 0)
                handed = list(needs)
                act(weaver, handed)
                self.assertEqual(handed, needs)
                before = told_of_weaver(weaver)
                handed.append(1)
                handed[0] = 2
                self.assertEqual(told_of_weaver(weaver), before)
                weaver.rewrite(4, -1, 7, 0)
                self.assertEqual(weaver.bench.changes()[-1][3], (2,))

    def test_needs_left_out_are_not_kept_from_one_call_to_the_next(self):
        weaver = Weaver(three_strung())
        weaver.rewrite(4, -1, 1, 0)
        weaver.enter(25, -1, 1, 0, [0])
        weaver.enter(27, -1, 1, 0)
        self.assertEqual(weaver.bench.change(4)[3], (1, 2, 3))
        other = Weaver(three_strung())
        other.leave(5)
        self.assertEqual(other.bench.change(0)[3], ())

    def test_the_lists_told_are_the_askers_own(self):
        weaver = Weaver(three_strung())
        weaver.enter(25, -1, 1, 0)
        before = told_of_weaver(weaver)
        for told in (weaver.order(), weaver.free(), weaver.bench.changes(), weaver.bench.stone()):
            self.assertIs(type(told), list)
            spoil(told)
            self.assertEqual(told_of_weaver(weaver), before)
        weaver.order().clear()
        weaver.free().clear()
        self.assertEqual(told_of_weaver(weaver), before)
        self.assertEqual(weaver.enter(5, -1, 1, 0), (3, 3))
        self.assertEqual(weaver.order(), [3, 4, 1, 2, 5])

    def test_what_is_told_stays_as_it_was(self):
        weaver = Weaver(three_strung())
        order = weaver.order()
        free = weaver.free()
        told = weaver.enter(25, -1, 1, 0)
        record = weaver.record_of(2)
        weaver.rewrite(2, 1, 2, 3)
        weaver.leave(2)
        weaver.leave(4)
        weaver.enter(1, -1, 1, 0)
        self.assertEqual((order, free, told, record), ([4, 1, 5], [2, 3], (2, 1), (25, 5, -1, 1, 0)))

    def test_the_kinds(self):
        weaver = Weaver(three_strung())
        weaver.enter(25, -1, 1, 0)
        weaver.leave(5)
        told = [weaver.coming_in(2), weaver.going_out(5), weaver.last_change(1), weaver.box_of(25)]
        self.assertEqual([type(one) for one in told + weaver.order() + weaver.free()], [int] * 9)
        self.assertIs(type(weaver.record_of(2)), tuple)

    def test_two_weavers_of_one_stone_know_nothing_of_one_another(self):
        stone = three_strung()
        one = Weaver(stone)
        other = Weaver(stone)
        before = told_of_weaver(other)
        one.enter(25, -1, 1, 0)
        one.leave(4)
        one.rewrite(1, -1, 1, 0)
        one.bench.carve(0)
        self.assertEqual(told_of_weaver(other), before)
        self.assertEqual(other.leave(5), 0)

    def test_the_bench_is_the_same_each_time(self):
        weaver = Weaver(three_strung())
        bench = weaver.bench
        weaver.enter(25, -1, 1, 0)
        weaver.leave(4)
        self.assertIs(weaver.bench, bench)
        # A change that was asked of the bench itself is numbered among the others.
        self.assertEqual(bench.put(0, 3, (7,)), 3)
        self.assertEqual(weaver.rewrite(1, -1, 1, 0, [3]), 4)
        self.assertEqual(bench.change(4)[3], (1, 3))


if __name__ == "__main__":
    unittest.main()
