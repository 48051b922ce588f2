import random
import unittest

from ripestone.needs import chain, closure, is_closed
from tests.ground import all_needs, closed_by_words, closed_sets, scattered_needs, subsets, told_often, turned

# 3 needs 1 and 2, these need 0; 4 stands alone; 12 needs 11, 3 and 9 in no order.
WEB = [(), (0,), (0,), (2, 1), (), (4,), (5, 3), (), (7,), (8,), (), (10,), (11, 3, 9)]
MANY = 5000


def comes_to(needs, high, low):
    return high == low or any(comes_to(needs, need, low) for need in needs[high])


def chain_by_words(needs, high, low):
    if not comes_to(needs, high, low):
        return []
    links = [high]
    while links[-1] != low:
        links.append(min(need for need in needs[links[-1]] if comes_to(needs, need, low)))
    return links


def line(many):
    return [()] + [(number - 1,) for number in range(1, many)]


def ladder(many):
    return [(), (0,)] + [(number - 1, number - 2) for number in range(2, many)]


class IsClosedTest(unittest.TestCase):
    def test_closed_lists(self):
        for some in ([0], [4], [0, 1], [0, 2], [0, 1, 2, 3], [4, 5], [7, 8, 9], list(range(13))):
            with self.subTest(some=some):
                self.assertIs(is_closed(WEB, some), True)

    def test_lists_that_lack_one_needed_number(self):
        for some in ([1], [0, 1, 3], [0, 2, 3], [1, 2, 3], [5], [8, 9], [7, 9]):
            with self.subTest(some=some):
                self.assertIs(is_closed(WEB, some), False)

    def test_all_but_one_number(self):
        for lacking in range(13):
            with self.subTest(lacking=lacking):
                some = [number for number in range(13) if number != lacking]
                self.assertIs(is_closed(WEB, some), lacking in (6, 12))

    def test_the_empty_list(self):
        self.assertIs(is_closed(WEB, []), True)
        self.assertIs(is_closed([], []), True)

    def test_no_needs_at_all(self):
        for some in subsets(range(4)):
            self.assertIs(is_closed([(), (), (), ()], some), True)

    def test_any_order_and_several_times(self):
        self.assertIs(is_closed(WEB, [3, 0, 2, 1, 3, 3, 0]), True)
        self.assertIs(is_closed(WEB, [1, 1, 0, 0, 1]), True)
        self.assertIs(is_closed(WEB, [3, 0, 2, 2, 3, 3, 0]), False)
        self.assertIs(is_closed(WEB, [1, 1]), False)
        self.assertIs(is_closed(WEB, [0, 4, 7, 0, 9]), False)

    def test_tuples_in_any_order(self):
        for last in ((0, 1, 2), (2, 1, 0), (1, 2, 0), (2, 0, 1)):
            needs = [(), (), (), last]
            self.assertIs(is_closed(needs, [3, 2, 1, 0]), True)
            for lacking in range(3):
                self.assertIs(is_closed(needs, [number for number in range(4) if number != lacking]), False)

    def test_all_small_needs(self):
        for needs in all_needs(4):
            for some in subsets(range(4)):
                expected = closed_by_words(needs, some)
                self.assertIs(is_closed(needs, some), expected, (needs, some))
                self.assertIs(is_closed([tuple(turned(need)) for need in needs], told_often(some)), expected)

    def test_many(self):
        whole = list(range(MANY))
        self.assertIs(is_closed(line(MANY), whole), True)
        self.assertIs(is_closed(line(MANY), list(reversed(whole))), True)
        self.assertIs(is_closed(line(MANY), whole[1:]), False)
        self.assertIs(is_closed(ladder(MANY), whole[:2500] + whole[2501:]), False)


class ClosureTest(unittest.TestCase):
    def test_over_several_steps(self):
        self.assertEqual(closure(WEB, [3]), [0, 1, 2, 3])
        self.assertEqual(closure(WEB, [6]), [0, 1, 2, 3, 4, 5, 6])
        self.assertEqual(closure(WEB, [12]), [0, 1, 2, 3, 7, 8, 9, 10, 11, 12])

    def test_any_order_and_several_times(self):
        self.assertEqual(closure(WEB, [9, 1, 9, 1, 1]), [0, 1, 7, 8, 9])
        self.assertEqual(closure(WEB, [11, 5, 2]), [0, 2, 4, 5, 10, 11])
        self.assertEqual(closure(WEB, [0, 11, 3, 0, 2]), [0, 1, 2, 3, 10, 11])

    def test_of_a_closed_list(self):
        self.assertEqual(closure(WEB, [0, 1]), [0, 1])
        self.assertEqual(closure(WEB, [2, 0, 2, 10, 4]), [0, 2, 4, 10])

    def test_of_the_empty_list(self):
        self.assertEqual(closure(WEB, []), [])
        self.assertEqual(closure([], []), [])

    def test_no_needs_at_all(self):
        self.assertEqual(closure([(), (), ()], [2, 0, 2]), [0, 2])

    def test_is_the_least_closed_one_that_holds_the_list(self):
        for needs in all_needs(4):
            closed = closed_sets(needs)
            for some in subsets(range(4)):
                around = [set(one) for one in closed if set(some) <= set(one)]
                least = sorted(set.intersection(*around))
                for lists in (some, told_often(some)):
                    told = closure([tuple(turned(need)) for need in needs], lists)
                    self.assertEqual(told, least, (needs, some))
                    self.assertIs(is_closed(needs, told), True)

    def test_scattered_needs(self):
        chance = random.Random(5)
        for step in range(60):
            needs = scattered_needs(30, chance)
            some = [chance.randrange(30) for count in range(chance.randrange(5))]
            expected = [low for low in range(30) if any(comes_to(needs, high, low) for high in some)]
            self.assertEqual(closure(needs, some), expected, (needs, some))

    def test_many(self):
        self.assertEqual(closure(line(MANY), [MANY - 1]), list(range(MANY)))
        self.assertEqual(closure(ladder(MANY), [MANY - 1, 3]), list(range(MANY)))
        self.assertEqual(closure(line(MANY), [2500, 17]), list(range(2501)))


class ChainTest(unittest.TestCase):
    def test_the_least_need_that_leads_down_is_taken_at_each_number(self):
        self.assertEqual(chain(WEB, 3, 0), [3, 1, 0])
        self.assertEqual(chain(WEB, 6, 0), [6, 3, 1, 0])
        self.assertEqual(chain(WEB, 12, 0), [12, 3, 1, 0])
        needs = [(), (0,), (0,), (2, 1), (2, 1), (4, 3), (4, 3)]
        self.assertEqual(chain(needs, 6, 0), [6, 3, 1, 0])
        self.assertEqual(chain(needs, 5, 2), [5, 3, 2])

    def test_a_lesser_need_that_does_not_lead_there_is_passed_over(self):
        self.assertEqual(chain(WEB, 12, 7), [12, 9, 8, 7])
        self.assertEqual(chain(WEB, 12, 10), [12, 11, 10])
        self.assertEqual(chain(WEB, 6, 4), [6, 5, 4])
        self.assertEqual(chain(WEB, 3, 2), [3, 2])
        # At each number down to 1 the lesser need, 0, leads nowhere.
        needs = [(), ()] + [(0, number - 1) for number in range(2, 14)]
        self.assertEqual(chain(needs, 13, 1), [13, 12, 11, 10, 9, 8, 7, 6, 5, 4, 3, 2, 1])
        self.assertEqual(chain(needs, 13, 0), [13, 0])

    def test_neither_the_shortest_nor_the_greatest_way(self):
        needs = [(), (0,), (1,), (0, 2), (3, 2)]
        self.assertEqual(chain(needs, 4, 0), [4, 2, 1, 0])
        needs = [(), (0,), (1,), (), (2, 0), (4, 3)]
        self.assertEqual(chain(needs, 5, 0), [5, 4, 0])
        needs = [(), (0,), (1,), (2, 0), (2, 3)]
        self.assertEqual(chain(needs, 4, 1), [4, 2, 1])
        needs = [(), (0,), (1,), (2,), (1,), (4, 3)]
        self.assertEqual(chain(needs, 5, 0), [5, 3, 2, 1, 0])

    def test_the_numbers_are_weighed_as_numbers(self):
        needs = [()] + [(0,) for number in range(1, 12)] + [(11, 10, 9, 2), (12, 11, 10, 9)]
        self.assertEqual(chain(needs, 12, 0), [12, 2, 0])
        self.assertEqual(chain(needs, 13, 0), [13, 9, 0])

    def test_tuples_in_any_order(self):
        for last in ((1, 2, 3), (3, 2, 1), (2, 3, 1), (3, 1, 2)):
            self.assertEqual(chain([(), (), (0,), (0,), last], 4, 0), [4, 2, 0])

    def test_a_number_to_itself(self):
        for number in range(13):
            self.assertEqual(chain(WEB, number, number), [number])

    def test_no_chain(self):
        for high, low in ((4, 0), (6, 7), (12, 4), (2, 1), (10, 9)):
            with self.subTest(high=high, low=low):
                self.assertEqual(chain(WEB, high, low), [])

    def test_the_other_way_round(self):
        for high, low in ((0, 3), (0, 1), (7, 12), (4, 6)):
            with self.subTest(high=high, low=low):
                self.assertEqual(chain(WEB, high, low), [])

    def test_all_small_needs(self):
        for needs in all_needs(5):
            turned_needs = [tuple(turned(need)) for need in needs]
            for high in range(5):
                for low in range(5):
                    expected = chain_by_words(needs, high, low)
                    self.assertEqual(chain(turned_needs, high, low), expected, (turned_needs, high, low))

    def test_scattered_needs(self):
        chance = random.Random(6)
        for step in range(40):
            needs = scattered_needs(16, chance)
            for high in range(16):
                for low in range(16):
                    self.assertEqual(chain(needs, high, low), chain_by_words(needs, high, low), (needs, high, low))

    def test_many(self):
        self.assertEqual(chain(line(MANY), MANY - 1, 0), list(range(MANY - 1, -1, -1)))
        self.assertEqual(chain(ladder(MANY), MANY - 1, 0), list(range(MANY - 1, 0, -2)) + [0])
        self.assertEqual(chain(ladder(MANY), MANY - 2, 1), list(range(MANY - 2, 1, -2)) + [1])
        self.assertEqual(chain([(), ()] + ladder(MANY)[2:], 1, 0), [])


if __name__ == "__main__":
    unittest.main()
