import itertools
import random
import unittest

from ripestone.changes import laid, needs_of, ripe
from tests.ground import (
    all_needs, closed_sets, laid_by_words, ripe_by_words, scattered_needs, subsets, told_often, with_needs,
)

# Two panes that wait for one another: 1 for 0, 3 for 1 and 2, 4 for 3; 5 for 2 alone; 6 for nothing.
CHANGES = [
    (0, 0, (10,), ()),
    (1, 0, (11,), (0,)),
    (0, 1, (12, 0), (0,)),
    (0, 0, (13,), (0, 1, 2)),
    (1, 1, (14,), (1, 3)),
    (0, 2, (15,), (2,)),
    (2, 0, (16,), ()),
]
MANY = 5000


class NeedsOfTest(unittest.TestCase):
    def test_in_the_changes_order(self):
        self.assertEqual(needs_of(CHANGES), [(), (0,), (0,), (0, 1, 2), (1, 3), (2,), ()])

    def test_each_is_a_tuple(self):
        for need in needs_of(CHANGES):
            self.assertIsInstance(need, tuple)

    def test_of_no_changes(self):
        self.assertEqual(needs_of([]), [])

    def test_of_one(self):
        self.assertEqual(needs_of([(7, 8, (1, 2, 3), ())]), [()])


class RipeTest(unittest.TestCase):
    def test_none_settled(self):
        self.assertEqual(ripe(CHANGES, [], 0), [0, 2, 5])
        self.assertEqual(ripe(CHANGES, [], 1), [])
        self.assertEqual(ripe(CHANGES, [], 2), [6])

    def test_some_settled(self):
        self.assertEqual(ripe(CHANGES, [0], 0), [2, 5])
        self.assertEqual(ripe(CHANGES, [0], 1), [1])
        self.assertEqual(ripe(CHANGES, [0, 1], 0), [2, 3, 5])
        self.assertEqual(ripe(CHANGES, [0, 1], 1), [])
        self.assertEqual(ripe(CHANGES, [0, 2, 5], 0), [])
        self.assertEqual(ripe(CHANGES, [0, 1, 2, 3], 1), [4])
        self.assertEqual(ripe(CHANGES, [0, 2, 3, 1], 0), [5])
        self.assertEqual(ripe(CHANGES, [6], 2), [])

    def test_all_settled(self):
        for pane in range(3):
            self.assertEqual(ripe(CHANGES, list(range(7)), pane), [])

    def test_any_order_and_several_times(self):
        self.assertEqual(ripe(CHANGES, [1, 0, 1, 1, 0], 0), [2, 3, 5])
        self.assertEqual(ripe(CHANGES, [3, 2, 1, 0, 3], 1), [4])
        self.assertEqual(ripe(CHANGES, [0, 0], 1), [1])

    def test_of_no_changes(self):
        self.assertEqual(ripe([], [], 0), [])

    def test_a_pane_without_changes(self):
        self.assertEqual(ripe(CHANGES, [], 3), [])
        self.assertEqual(ripe(CHANGES, [0, 1], 7), [])

    def test_each_pane_and_somewhat_beyond(self):
        changes = [(pane, 8, (pane,), ()) for pane in range(10)]
        for pane in range(10):
            self.assertEqual(ripe(changes, [], pane), [pane])
            self.assertEqual(ripe(changes, [pane], pane), [])

    def test_ripe_only_because_another_one_of_the_pane_is(self):
        changes = with_needs((4, 4, 4, 4), ((), (0,), (1,), (0, 2)))
        self.assertEqual(ripe(changes, [], 4), [0, 1, 2, 3])
        self.assertEqual(ripe(changes, [0], 4), [1, 2, 3])

    def test_not_ripe_because_one_of_another_pane_waits(self):
        changes = with_needs((4, 5, 4, 4), ((), (), (1,), (0,)))
        self.assertEqual(ripe(changes, [], 4), [0, 3])
        self.assertEqual(ripe(changes, [1], 4), [0, 2, 3])

    def test_not_ripe_because_one_of_the_same_pane_waits_for_another_pane(self):
        changes = with_needs((5, 4, 4, 4), ((), (0,), (1,), ()))
        self.assertEqual(ripe(changes, [], 4), [3])
        self.assertEqual(ripe(changes, [0], 4), [1, 2, 3])

    def test_one_need_that_waits_is_enough_wherever_it_stands(self):
        for waiting in range(3):
            panes = [1 if number == waiting else 0 for number in range(3)] + [0]
            changes = with_needs(panes, ((), (), (), (0, 1, 2)))
            self.assertEqual(ripe(changes, [], 0), [number for number in range(3) if number != waiting])
            self.assertEqual(ripe(changes, [waiting], 0), [number for number in range(4) if number != waiting])

    def test_ripe_for_one_carving_does_not_make_ripe_for_another_pane(self):
        changes = with_needs((0, 1, 0), ((), (0,), (1,)))
        self.assertEqual(ripe(changes, [], 0), [0])
        self.assertEqual(ripe(changes, [], 1), [])

    def test_all_small_changes(self):
        for needs in all_needs(4):
            closed = closed_sets(needs)
            for panes in itertools.product((0, 1), repeat=4):
                changes = with_needs(panes, needs)
                for settled in closed:
                    for pane in (0, 1):
                        expected = ripe_by_words(changes, settled, pane)
                        self.assertEqual(ripe(changes, told_often(settled), pane), expected, (changes, settled, pane))

    def test_scattered_changes(self):
        chance = random.Random(8)
        for step in range(200):
            needs = [tuple(sorted(need)) for need in scattered_needs(14, chance)]
            changes = with_needs([chance.randrange(3) for number in range(14)], needs)
            settled = []
            for carving in range(8):
                pane = chance.randrange(3)
                told = ripe(changes, settled, pane)
                self.assertEqual(told, ripe_by_words(changes, settled, pane), (changes, settled, pane))
                settled = told[: chance.randrange(len(told) + 1)] + settled

    def test_many(self):
        changes = [(0, 0, (0,), ())] + [(0, 0, (number,), (number - 1,)) for number in range(1, MANY)]
        self.assertEqual(ripe(changes, [], 0), list(range(MANY)))
        self.assertEqual(ripe(changes, list(range(MANY // 2)), 0), list(range(MANY // 2, MANY)))
        self.assertEqual(ripe(changes, list(range(MANY)), 0), [])


class LaidTest(unittest.TestCase):
    def setUp(self):
        self.stone = [[(1,), (2,), (3,)], [(4,), (5,)], [(6,)]]

    def test_none_told(self):
        self.assertEqual(laid(self.stone, CHANGES, []), self.stone)
        self.assertEqual(laid(self.stone, [], []), self.stone)

    def test_all_told(self):
        expected = [[(13,), (12, 0), (15,)], [(11,), (14,)], [(16,)]]
        self.assertEqual(laid(self.stone, CHANGES, list(range(7))), expected)
        self.assertEqual(laid(self.stone, CHANGES, list(range(6, -1, -1))), expected)

    def test_some_told_and_what_lay_there_where_there_is_none(self):
        self.assertEqual(laid(self.stone, CHANGES, [0]), [[(10,), (2,), (3,)], [(4,), (5,)], [(6,)]])
        self.assertEqual(laid(self.stone, CHANGES, [5, 6]), [[(1,), (2,), (15,)], [(4,), (5,)], [(16,)]])

    def test_some_that_are_not_closed(self):
        self.assertEqual(laid(self.stone, CHANGES, [4]), [[(1,), (2,), (3,)], [(4,), (14,)], [(6,)]])
        self.assertEqual(laid(self.stone, CHANGES, [3, 1]), [[(13,), (2,), (3,)], [(11,), (5,)], [(6,)]])

    def test_the_greatest_number_lies_there_in_whatever_order_they_are_told(self):
        changes = [(1, 0, (90,), ()), (1, 0, (50,), (0,)), (1, 1, (60,), ()), (1, 0, (70,), (1,))]
        for many in range(5):
            for some in itertools.permutations(range(4), many):
                with self.subTest(some=some):
                    expected = laid_by_words(self.stone, changes, some)
                    self.assertEqual(laid(self.stone, changes, list(some)), expected)
        self.assertEqual(laid(self.stone, changes, [3, 1, 0])[1], [(70,), (5,)])
        self.assertEqual(laid(self.stone, changes, [1, 0])[1], [(50,), (5,)])

    def test_several_times_told(self):
        changes = [(2, 0, (90,), ()), (2, 0, (50,), (0,))]
        self.assertEqual(laid(self.stone, changes, [1, 0, 0, 1, 0])[2], [(50,)])
        self.assertEqual(laid(self.stone, changes, [0, 0])[2], [(90,)])

    def test_the_numbers_are_weighed_as_numbers(self):
        changes = [(2, 0, (number,), ()) for number in range(12)]
        self.assertEqual(laid(self.stone, changes, [9, 11, 2, 10])[2], [(11,)])

    def test_any_thing(self):
        changes = [(0, 0, (), ()), (0, 1, (-1, 0, -7), ()), (1, 0, (10**59,), ()), (2, 0, (0,), ())]
        self.assertEqual(
            laid(self.stone, changes, [0, 1, 2, 3]), [[(), (-1, 0, -7), (3,)], [(10**59,), (5,)], [(0,)]]
        )

    def test_each_pane_and_place_and_somewhat_beyond(self):
        stone = [[(-1,) for place in range(11)] for pane in range(10)]
        spots = [(pane, place) for pane in range(10) for place in range(11)]
        changes = [(pane, place, (pane, place), ()) for pane, place in spots]
        whole = laid(stone, changes, list(range(len(changes))))
        self.assertEqual(whole, [[(pane, place) for place in range(11)] for pane in range(10)])
        for number, (pane, place) in enumerate(spots):
            told = laid(stone, changes, [number])
            self.assertEqual(told[pane][place], (pane, place))
            self.assertEqual(sum(thing != (-1,) for row in told for thing in row), 1)

    def test_all_subsets_of_several_changes(self):
        for some in subsets(range(7)):
            expected = laid_by_words(self.stone, CHANGES, some)
            self.assertEqual(laid(self.stone, CHANGES, told_often(some)), expected, some)

    def test_many(self):
        changes = [(number % 2, 0, (number,), ()) for number in range(MANY)]
        self.assertEqual(laid([[(0,)], [(1,)]], changes, list(range(MANY))), [[(MANY - 2,)], [(MANY - 1,)]])


if __name__ == "__main__":
    unittest.main()
