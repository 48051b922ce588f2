"""Nothing that is handed in is changed or kept, and every list that is told is the asker's own."""

import copy
import unittest

from ripestone.changes import laid, needs_of, ripe
from ripestone.needs import chain, closure, is_closed
from ripestone.parts import plainly
from ripestone.records import blank_stone, fresh_age, is_sealed, record_at, seal_spot, spot_of, worth_by
from ripestone.strings import is_sound, loose_boxes, rows_found, string_of
from ripestone.turns import plan, slow_chain, turns
from tests.ground import lists_in, spoil

NEEDS = [(), (0,), (1, 0), (), (2, 3)]
CHANGES = [(0, 0, (5,), ()), (1, 0, (6,), (0,)), (0, 1, (7,), (0,)), (0, 0, (8,), (0, 1))]
STONE = [[(0,), (1,)], [(2,), (3,)], [(4,)]]
# The string is 3, 1; box 2 is loose; age 2 is sealed.
TABLE_STONE = [[(0, 3, -1, -1, 0), (7, 0, 4, 5, 1), (2,)], [(9, 0, 3, 6, 2), (5, 1, -1, 8, 0), (0,)]]
BLANK = [[(0, 0, -1, -1, 0), (0,)]]

# Of each function also such as tell an empty list or just what was handed in: there a shortcut would show.
ASKED = (
    (is_closed, (NEEDS, [1, 0, 1])),
    (is_closed, (NEEDS, [4, 2, 4])),
    (closure, (NEEDS, [2, 4, 2])),
    (closure, (NEEDS, [0, 1, 3])),
    (closure, (NEEDS, [3, 1, 0])),
    (closure, (NEEDS, [])),
    (chain, (NEEDS, 4, 0)),
    (chain, (NEEDS, 4, 4)),
    (chain, (NEEDS, 3, 0)),
    (chain, (NEEDS, 0, 3)),
    (needs_of, (CHANGES,)),
    (needs_of, ([],)),
    (ripe, (CHANGES, [], 0)),
    (ripe, (CHANGES, [1, 0, 1], 0)),
    (ripe, (CHANGES, [3, 2, 1, 0], 0)),
    (laid, (STONE, CHANGES, [3, 1, 0, 3])),
    (laid, (STONE, CHANGES, [0])),
    (laid, (STONE, CHANGES, [])),
    (laid, (STONE, [], [])),
    (turns, (CHANGES, [])),
    (turns, (CHANGES, [1, 0, 1])),
    (turns, ([], [])),
    (slow_chain, (CHANGES, [], 3)),
    (slow_chain, (CHANGES, [1, 0, 1], 0)),
    (plan, (CHANGES, [], [3, 2, 3])),
    (plan, (CHANGES, [0, 2, 0], [3])),
    (plan, (CHANGES, [0], [0])),
    (plan, (CHANGES, [], [])),
    (plan, (CHANGES, [], [0])),
    (blank_stone, (3, 2)),
    (spot_of, (TABLE_STONE, 3)),
    (seal_spot, (TABLE_STONE, 3)),
    (record_at, (TABLE_STONE, 3)),
    (is_sealed, (TABLE_STONE, 2)),
    (worth_by, (TABLE_STONE, (5, 0, 1, 2, 2))),
    (fresh_age, (TABLE_STONE,)),
    (string_of, (TABLE_STONE,)),
    (string_of, (BLANK,)),
    (loose_boxes, (TABLE_STONE,)),
    (loose_boxes, (BLANK,)),
    (is_sound, (TABLE_STONE,)),
    (is_sound, (BLANK + BLANK,)),
    (is_sound, (STONE,)),
    (is_sound, ([[[1, 2], [3]], (4,)],)),
    (rows_found, (TABLE_STONE,)),
    (rows_found, (BLANK,)),
    (plainly, ([(1, 5), (4, 0)], [("put", 4, 2), ("take", 1)])),
    (plainly, ([(1, 5), (4, 0)], [])),
    (plainly, ([], [])),
)
NOT_LISTS = (is_closed, spot_of, seal_spot, record_at, is_sealed, worth_by, fresh_age, is_sound)
TELLING = tuple(asked for asked in ASKED if asked[0] not in NOT_LISTS)


class OwnListsTest(unittest.TestCase):
    def check_each(self, asked, check):
        for function, handed in asked:
            with self.subTest(function=function.__name__, handed=handed):
                check(function, copy.deepcopy(handed))

    def test_what_is_handed_in_stays_as_it_was(self):
        def check(function, handed):
            before = copy.deepcopy(handed)
            function(*handed)
            self.assertEqual(handed, before)

        self.check_each(ASKED, check)

    def test_what_is_told_is_a_list(self):
        def check(function, handed):
            self.assertIs(type(function(*handed)), list)

        self.check_each(TELLING, check)

    def test_no_list_that_is_told_was_handed_in(self):
        def check(function, handed):
            for one in lists_in(function(*handed)):
                self.assertFalse(any(one is other for other in lists_in(handed)))

        self.check_each(TELLING, check)

    def test_what_is_told_and_changed_changes_nothing_handed_in(self):
        def check(function, handed):
            before = copy.deepcopy(handed)
            spoil(function(*handed))
            self.assertEqual(handed, before)

        self.check_each(TELLING, check)

    def test_what_is_told_and_changed_changes_nothing_told_again(self):
        def check(function, handed):
            first = function(*handed)
            kept = copy.deepcopy(first)
            spoil(first)
            self.assertEqual(function(*handed), kept)

        self.check_each(TELLING, check)

    def test_what_is_asked_later_changes_nothing_told(self):
        def check(function, handed):
            first = function(*handed)
            kept = copy.deepcopy(first)
            spoil(function(*handed))
            for other, others in TELLING:
                spoil(other(*copy.deepcopy(others)))
            self.assertEqual(first, kept)

        self.check_each(TELLING, check)

    def test_what_is_handed_in_and_changed_later_changes_nothing_told(self):
        def check(function, handed):
            told = function(*handed)
            kept = copy.deepcopy(told)
            spoil(handed)
            self.assertEqual(told, kept)

        self.check_each(TELLING, check)

    def test_no_two_lists_within_what_is_told_are_one(self):
        def check(function, handed):
            lists = lists_in(function(*handed))
            self.assertEqual(len(lists), len({id(one) for one in lists}))

        self.check_each(TELLING, check)

    def test_no_two_panes_of_a_laid_stone_are_one_where_the_panes_handed_in_are(self):
        pane = [(0,), (1,)]
        stone = [pane, pane, pane]
        told = laid(stone, [(1, 0, (7,), ())], [0])
        self.assertEqual(told, [[(0,), (1,)], [(7,), (1,)], [(0,), (1,)]])
        told[0].append((9,))
        self.assertEqual(told, [[(0,), (1,), (9,)], [(7,), (1,)], [(0,), (1,)]])
        self.assertEqual(stone, [[(0,), (1,)]] * 3)

    def test_panes_that_are_alike_are_not_one(self):
        told = laid([[(0,)], [(0,)]], [], [])
        told[0][0] = (5,)
        self.assertEqual(told, [[(5,)], [(0,)]])


class NothingKeptTest(unittest.TestCase):
    """The same list, handed in again with another content, is looked at anew."""

    def test_needs(self):
        needs = [(), (0,), (1,)]
        some = [2]
        self.assertIs(is_closed(needs, some), False)
        self.assertEqual(closure(needs, some), [0, 1, 2])
        self.assertEqual(chain(needs, 2, 0), [2, 1, 0])
        needs[2] = ()
        self.assertIs(is_closed(needs, some), True)
        self.assertEqual(closure(needs, some), [2])
        self.assertEqual(chain(needs, 2, 0), [])
        some.append(1)
        self.assertIs(is_closed(needs, some), False)
        self.assertEqual(closure(needs, some), [0, 1, 2])

    def test_changes(self):
        changes = [(0, 0, (5,), ()), (0, 0, (6,), (0,))]
        stone = [[(1,)]]
        some = []
        self.assertEqual(needs_of(changes), [(), (0,)])
        self.assertEqual(ripe(changes, some, 0), [0, 1])
        self.assertEqual(laid(stone, changes, [0, 1]), [[(6,)]])
        self.assertEqual(laid(stone, changes, some), [[(1,)]])
        changes[0] = (1, 0, (5,), ())
        changes[1] = (0, 0, (7,), ())
        stone[0][0] = (2,)
        stone.append([(3,)])
        self.assertEqual(needs_of(changes), [(), ()])
        self.assertEqual(ripe(changes, some, 0), [1])
        self.assertEqual(laid(stone, changes, [0, 1]), [[(7,)], [(5,)]])
        self.assertEqual(laid(stone, changes, some), [[(2,)], [(3,)]])
        some.append(1)
        self.assertEqual(ripe(changes, some, 0), [])
        self.assertEqual(laid(stone, changes, some), [[(7,)], [(3,)]])

    def test_turns(self):
        changes = [(0, 0, (5,), ()), (1, 0, (6,), (0,))]
        settled = []
        goals = [1]
        self.assertEqual(turns(changes, settled), [1, 2])
        self.assertEqual(slow_chain(changes, settled, 1), [1, 0])
        self.assertEqual(plan(changes, settled, goals), [0, 1])
        settled.append(0)
        self.assertEqual(turns(changes, settled), [0, 1])
        self.assertEqual(slow_chain(changes, settled, 1), [1])
        self.assertEqual(plan(changes, settled, goals), [1])
        goals[0] = 0
        self.assertEqual(plan(changes, settled, goals), [])
        changes[1] = (0, 0, (6,), (0,))
        settled.clear()
        self.assertEqual(turns(changes, settled), [1, 1])
        self.assertEqual(slow_chain(changes, settled, 1), [1])
        self.assertEqual(plan(changes, settled, [1]), [0])

    def test_records_and_strings(self):
        stone = copy.deepcopy(TABLE_STONE)
        self.assertEqual(string_of(stone), [3, 1])
        self.assertEqual(rows_found(stone), [(5, 8), (9, 6)])
        self.assertIs(is_sound(stone), True)
        self.assertIs(is_sealed(stone, 2), True)
        self.assertEqual(fresh_age(stone), 3)
        stone[0][0] = (0, 2, -1, -1, 0)
        stone[0][1] = (-1, 0, 4, 5, 1)
        stone[0][2] = (6,)
        stone[1][2] = (1,)
        self.assertEqual(string_of(stone), [2])
        self.assertEqual(loose_boxes(stone), [1, 3])
        self.assertEqual(rows_found(stone), [(-1, 5)])
        self.assertEqual(record_at(stone, 2), (-1, 0, 4, 5, 1))
        self.assertIs(is_sealed(stone, 2), False)
        self.assertEqual(fresh_age(stone), 7)
        stone[0][1] = (-1, 2, 4, 5, 1)
        self.assertIs(is_sound(stone), False)


if __name__ == "__main__":
    unittest.main()
