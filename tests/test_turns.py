import itertools
import random
import unittest

from ripestone.turns import plan, slow_chain, turns
from tests.ground import (
    all_needs, closed_sets, plan_by_words, ripe_by_words, scattered_changes, slow_chain_by_words, subsets, told_often,
    turns_by_words, wanted_by_words, with_needs,
)

# Three panes: 1 and 8 wait in pane 0, 3 for 1 and 2, 4 for 3, 6 for 4 of another pane and 5 of its own, 7 for 6.
CHANGES = with_needs(
    (0, 0, 1, 1, 0, 2, 2, 2, 0),
    ((), (0,), (0,), (1, 2), (1, 3), (), (4, 5), (6,), (5,)),
)
ALL = list(range(9))
MANY = 5000


def small_changes(many, panes):
    for needs in all_needs(many):
        for chosen in itertools.product(range(panes), repeat=many):
            yield with_needs(chosen, needs)


def in_line(panes):
    """Each change needs the one ahead of it."""
    return with_needs(panes, [()] + [(number - 1,) for number in range(1, len(panes))])


def scattered_cases(seed, many):
    """Changes, and settled ones as some carvings, whole and broken off, leave them."""
    chance = random.Random(seed)
    for step in range(many):
        changes = scattered_changes(chance.randrange(5, 12), chance.randrange(1, 5), chance)
        settled = []
        for carving in range(chance.randrange(5)):
            found = ripe_by_words(changes, settled, chance.randrange(4))
            settled = found[: chance.randrange(len(found) + 1)] + settled
        yield changes, settled, chance


class TurnsTest(unittest.TestCase):
    def test_none_settled(self):
        self.assertEqual(turns(CHANGES, []), [1, 1, 2, 2, 3, 1, 4, 4, 2])

    def test_some_settled(self):
        self.assertEqual(turns(CHANGES, [0]), [0, 1, 1, 2, 3, 1, 4, 4, 2])
        self.assertEqual(turns(CHANGES, [0, 1]), [0, 0, 1, 1, 2, 1, 3, 3, 2])
        self.assertEqual(turns(CHANGES, [5]), [1, 1, 2, 2, 3, 0, 4, 4, 1])
        self.assertEqual(turns(CHANGES, [0, 1, 2, 3]), [0, 0, 0, 0, 1, 1, 2, 2, 2])
        self.assertEqual(turns(CHANGES, [0, 1, 2, 3, 4, 5, 6]), [0, 0, 0, 0, 0, 0, 0, 1, 1])

    def test_all_settled(self):
        self.assertEqual(turns(CHANGES, ALL), [0] * 9)

    def test_settled_in_any_order_and_several_times(self):
        self.assertEqual(turns(CHANGES, [3, 0, 2, 3, 1, 0]), [0, 0, 0, 0, 1, 1, 2, 2, 2])
        self.assertEqual(turns(CHANGES, [1, 0, 1]), [0, 0, 1, 1, 2, 1, 3, 3, 2])
        self.assertEqual(turns(CHANGES, [5, 5, 5]), [1, 1, 2, 2, 3, 0, 4, 4, 1])
        self.assertEqual(turns(CHANGES, ALL[::-1] + ALL), [0] * 9)

    def test_of_no_changes(self):
        self.assertEqual(turns([], []), [])

    def test_needs_of_the_same_pane_cost_nothing(self):
        self.assertEqual(turns(in_line([5] * 6), []), [1] * 6)
        self.assertEqual(turns(in_line([5] * 6), [0, 1]), [0, 0, 1, 1, 1, 1])

    def test_needs_of_another_pane_cost_one(self):
        self.assertEqual(turns(in_line([5, 6] * 3), []), [1, 2, 3, 4, 5, 6])
        self.assertEqual(turns(in_line([5, 6] * 3), [0, 1]), [0, 0, 1, 2, 3, 4])

    def test_a_settled_need_of_another_pane_costs_nothing(self):
        self.assertEqual(turns(in_line([5, 6]), [0]), [0, 1])

    def test_the_greatest_is_taken_wherever_it_stands(self):
        needs = ((), (0,), (1,), ())
        for panes in itertools.permutations((0, 1, 2, 3)):
            changes = with_needs(panes + (panes[2],), needs + ((0, 2, 3),))
            self.assertEqual(turns(changes, []), [1, 2, 3, 1, 3])
            changes = with_needs(panes + (panes[3],), needs + ((0, 2, 3),))
            self.assertEqual(turns(changes, []), [1, 2, 3, 1, 4])

    def test_each_pane_and_somewhat_beyond(self):
        self.assertEqual(turns(in_line(range(10)), []), list(range(1, 11)))
        self.assertEqual(turns(in_line(range(9, -1, -1)), []), list(range(1, 11)))

    def test_all_small_changes(self):
        for changes in small_changes(4, 3):
            for settled in closed_sets([change[3] for change in changes]):
                expected = turns_by_words(changes, settled)
                self.assertEqual(turns(changes, told_often(settled)), expected, (changes, settled))

    def test_scattered_changes(self):
        for changes, settled, chance in scattered_cases(10, 300):
            self.assertEqual(turns(changes, told_often(settled)), turns_by_words(changes, settled), (changes, settled))

    def test_many(self):
        changes = in_line([number % 2 for number in range(MANY)])
        self.assertEqual(turns(changes, []), list(range(1, MANY + 1)))
        self.assertEqual(turns(changes, [0]), list(range(MANY)))
        self.assertEqual(turns(in_line([0] * MANY), []), [1] * MANY)


class TurnsAndCarvingsTest(unittest.TestCase):
    """What a turn says of the carvings that a change waits for."""

    def cases(self):
        for changes in small_changes(4, 2):
            for settled in closed_sets([change[3] for change in changes]):
                yield changes, settled
        for changes, settled, chance in scattered_cases(3, 150):
            yield changes, settled

    def test_one_carving_lowers_no_turn_by_more_than_one_and_raises_none(self):
        for changes, settled in self.cases():
            before = turns(changes, settled)
            for pane in range(4):
                after = turns(changes, settled + ripe_by_words(changes, settled, pane))
                for high, low in zip(before, after):
                    self.assertIn(high - low, (0, 1), (changes, settled, pane))

    def test_a_carving_broken_off_does_neither(self):
        for changes, settled, chance in scattered_cases(4, 150):
            before = turns(changes, settled)
            for pane in range(4):
                found = ripe_by_words(changes, settled, pane)
                for most in range(len(found) + 1):
                    after = turns(changes, settled + found[:most])
                    for high, low in zip(before, after):
                        self.assertIn(high - low, (0, 1), (changes, settled, pane, most))

    def test_one_round_lowers_each_turn_that_is_not_0(self):
        for changes, settled in self.cases():
            before = turns(changes, settled)
            panes = sorted({change[0] for change in changes})
            for order in itertools.permutations(panes):
                held = list(settled)
                for pane in order:
                    held = held + ripe_by_words(changes, held, pane)
                for high, low in zip(before, turns(changes, held)):
                    self.assertLessEqual(low, max(high - 1, 0), (changes, settled, order))

    def test_no_change_is_settled_by_fewer_carvings_than_its_turn(self):
        for changes, settled in self.cases():
            known = turns(changes, settled)
            reached = {frozenset(settled)}
            for carvings in range(max(known)):
                for held in reached:
                    for number in held:
                        self.assertLessEqual(known[number], carvings, (changes, settled))
                reached = {held | set(ripe_by_words(changes, held, pane)) for held in reached for pane in range(4)}


class SlowChainTest(unittest.TestCase):
    def test_of_a_settled_one(self):
        self.assertEqual(slow_chain(CHANGES, [0], 0), [])
        self.assertEqual(slow_chain(CHANGES, [5, 1, 0, 1], 1), [])
        for goal in ALL:
            self.assertEqual(slow_chain(CHANGES, ALL, goal), [])

    def test_of_one_of_turn_1_it_is_that_one_alone(self):
        self.assertEqual(slow_chain(CHANGES, [], 0), [0])
        self.assertEqual(slow_chain(CHANGES, [], 1), [1])
        self.assertEqual(slow_chain(CHANGES, [], 5), [5])
        self.assertEqual(slow_chain(CHANGES, [0], 2), [2])
        self.assertEqual(slow_chain(in_line([4] * 5), [], 4), [4])

    def test_none_settled(self):
        self.assertEqual(slow_chain(CHANGES, [], 2), [2, 0])
        self.assertEqual(slow_chain(CHANGES, [], 3), [3, 1])
        self.assertEqual(slow_chain(CHANGES, [], 4), [4, 3, 1])
        self.assertEqual(slow_chain(CHANGES, [], 6), [6, 4, 3, 1])
        self.assertEqual(slow_chain(CHANGES, [], 7), [7, 6, 4, 3, 1])
        self.assertEqual(slow_chain(CHANGES, [], 8), [8, 5])

    def test_some_settled(self):
        self.assertEqual(slow_chain(CHANGES, [0], 7), [7, 6, 4, 3, 1])
        self.assertEqual(slow_chain(CHANGES, [1, 0], 7), [7, 6, 4, 3])
        self.assertEqual(slow_chain(CHANGES, [3, 2, 1, 0, 3], 7), [7, 6, 4])
        self.assertEqual(slow_chain(CHANGES, [0, 1, 2, 3, 4], 7), [7])
        self.assertEqual(slow_chain(CHANGES, [5], 8), [8])

    def test_the_least_of_the_needs_from_which_the_turn_comes(self):
        changes = with_needs((0, 1, 2, 2, 3), ((), (), (), (), (1, 2, 3)))
        self.assertEqual(slow_chain(changes, [], 4), [4, 1])
        self.assertEqual(slow_chain(changes, [1], 4), [4, 2])
        self.assertEqual(slow_chain(changes, [2, 1], 4), [4, 3])

    def test_a_lesser_need_with_a_lesser_turn_is_passed_over(self):
        changes = with_needs((0, 0, 1, 2), ((), (), (1,), (0, 1, 2)))
        self.assertEqual(slow_chain(changes, [], 3), [3, 2, 1])

    def test_a_lesser_need_of_the_same_turn_and_pane_is_passed_over_for_one_of_another_pane(self):
        changes = with_needs((0, 1, 0), ((), (), (0, 1)))
        self.assertEqual(slow_chain(changes, [], 2), [2, 1])
        changes = with_needs((1, 0, 0), ((), (), (0, 1)))
        self.assertEqual(slow_chain(changes, [], 2), [2, 0])

    def test_the_turn_may_come_from_the_same_pane_and_from_another(self):
        # 2 and 3 are of turn 2; 4 has its turn, 3, through 3 of another pane alone.
        changes = with_needs((0, 1, 1, 0, 1), ((), (), (0,), (1,), (2, 3)))
        self.assertEqual(slow_chain(changes, [], 4), [4, 3, 1])
        # Here 2 has turn 2 in the pane of 3, and 1 has turn 1 in another: both give 3 its turn.
        changes = with_needs((0, 0, 1, 1), ((), (), (0,), (1, 2)))
        self.assertEqual(slow_chain(changes, [], 3), [3, 1])
        changes = with_needs((0, 1, 0, 1), ((), (0,), (), (1, 2)))
        self.assertEqual(slow_chain(changes, [], 3), [3, 1, 0])

    def test_the_numbers_are_weighed_as_numbers(self):
        changes = with_needs([0] * 12 + [1], [()] * 12 + [(2, 9, 10, 11)])
        self.assertEqual(slow_chain(changes, [], 12), [12, 2])
        self.assertEqual(slow_chain(changes, [2], 12), [12, 9])

    def check_chain(self, changes, settled, goal):
        told = slow_chain(changes, told_often(settled), goal)
        self.assertEqual(told, slow_chain_by_words(changes, settled, goal), (changes, settled, goal))
        if told:
            panes = [changes[number][0] for number in told]
            steps = sum(high != low for high, low in zip(panes, panes[1:]))
            self.assertEqual(steps, turns(changes, settled)[goal] - 1, (changes, settled, goal))
            for high, low in zip(told, told[1:]):
                self.assertIn(low, changes[high][3])

    def test_all_small_changes(self):
        for changes in small_changes(4, 2):
            for settled in closed_sets([change[3] for change in changes]):
                for goal in range(4):
                    self.check_chain(changes, settled, goal)

    def test_scattered_changes(self):
        for changes, settled, chance in scattered_cases(11, 300):
            for goal in range(len(changes)):
                self.check_chain(changes, settled, goal)

    def test_many(self):
        changes = in_line([number % 2 for number in range(MANY)])
        self.assertEqual(slow_chain(changes, [], MANY - 1), list(range(MANY - 1, -1, -1)))
        self.assertEqual(slow_chain(in_line([0] * MANY), [], MANY - 1), [MANY - 1])
        changes = in_line([1] + [0] * (MANY - 1))
        self.assertEqual(slow_chain(changes, [], MANY - 1), list(range(MANY - 1, -1, -1)))


class PlanTest(unittest.TestCase):
    def test_no_goals(self):
        self.assertEqual(plan(CHANGES, [], []), [])
        self.assertEqual(plan(CHANGES, [0, 5], []), [])
        self.assertEqual(plan([], [], []), [])

    def test_one_goal_and_what_it_needs(self):
        self.assertEqual(plan(CHANGES, [], [0]), [0])
        self.assertEqual(plan(CHANGES, [], [2]), [0, 1])
        self.assertEqual(plan(CHANGES, [], [4]), [0, 1, 0])
        self.assertEqual(plan(CHANGES, [], [5]), [2])
        self.assertEqual(plan(CHANGES, [], [8]), [2, 0])
        self.assertEqual(plan(CHANGES, [], [7]), [0, 2, 1, 0, 2])

    def test_all_as_goals(self):
        # 8 is of turn 2, in pane 0, but 5 of pane 2 is carved behind 0 in the first turn.
        self.assertEqual(plan(CHANGES, [], ALL), [0, 2, 0, 1, 0, 2])

    def test_some_settled(self):
        self.assertEqual(plan(CHANGES, [1, 0], [7]), [1, 2, 0, 2])
        self.assertEqual(plan(CHANGES, [0, 1, 2, 3, 5], [7]), [0, 2])
        self.assertEqual(plan(CHANGES, [5], [8]), [0])

    def test_settled_goals(self):
        self.assertEqual(plan(CHANGES, [0], [0]), [])
        self.assertEqual(plan(CHANGES, [0, 1, 5], [5, 1]), [])
        self.assertEqual(plan(CHANGES, [0, 1, 5], [5, 2, 1]), [1])
        self.assertEqual(plan(CHANGES, ALL, ALL), [])

    def test_goals_in_any_order_and_several_times(self):
        self.assertEqual(plan(CHANGES, [], [8, 2, 8, 8, 2]), [0, 2, 0, 1])
        self.assertEqual(plan(CHANGES, [], [2, 8]), [0, 2, 0, 1])
        self.assertEqual(plan(CHANGES, [1, 0, 1], [7, 7]), [1, 2, 0, 2])

    def test_what_is_not_wanted_is_not_carved_for(self):
        changes = with_needs((0, 1, 2), ((), (), ()))
        self.assertEqual(plan(changes, [], [1]), [1])
        self.assertEqual(plan(changes, [], [2, 0]), [0, 2])

    def test_panes_upwards_within_a_turn(self):
        changes = with_needs((7, 3, 5, 0), ((), (), (), ()))
        self.assertEqual(plan(changes, [], [0, 1, 2, 3]), [0, 3, 5, 7])

    def test_a_carving_settles_what_is_ripe_ahead_of_its_turn(self):
        # 1 is of turn 2, but ripe in pane 1 when that is carved for 2.
        changes = with_needs((0, 1, 1), ((), (0,), ()))
        self.assertEqual(plan(changes, [], [1, 2]), [0, 1])
        # Not so where the pane comes ahead of the one that it needs.
        changes = with_needs((1, 0, 0), ((), (0,), ()))
        self.assertEqual(plan(changes, [], [1, 2]), [0, 1, 0])

    def test_turns_are_those_before_the_first_carving(self):
        # 2 is settled with 1 in the first turn; 3 keeps turn 3 and comes behind 5 of turn 2.
        changes = with_needs((0, 1, 1, 0, 2, 3), ((), (), (0,), (2,), (), (4,)))
        self.assertEqual(turns(changes, []), [1, 1, 2, 3, 1, 2])
        self.assertEqual(plan(changes, [], [1, 3, 5]), [0, 1, 2, 3, 0])

    def test_each_pane_and_somewhat_beyond(self):
        self.assertEqual(plan(in_line(range(10)), [], [9]), list(range(10)))
        self.assertEqual(plan(in_line(range(9, -1, -1)), [], [9]), list(range(9, -1, -1)))

    def check_plan(self, changes, settled, goals):
        told = plan(changes, told_often(settled), told_often(goals))
        self.assertEqual(told, plan_by_words(changes, settled, goals), (changes, settled, goals))
        left = wanted_by_words(changes, settled, goals)
        held = set(settled)
        for pane in told:
            found = set(ripe_by_words(changes, held, pane))
            self.assertTrue(found & left, (changes, settled, goals))
            left -= found
            held |= found
        self.assertEqual(left, set(), (changes, settled, goals))

    def test_all_small_changes(self):
        for changes in small_changes(3, 3):
            for settled in closed_sets([change[3] for change in changes]):
                for goals in subsets(range(3)):
                    self.check_plan(changes, settled, goals)

    def test_all_as_goals_of_all_small_changes(self):
        for changes in small_changes(4, 3):
            self.check_plan(changes, [], [0, 1, 2, 3])

    def test_scattered_changes(self):
        for changes, settled, chance in scattered_cases(12, 1500):
            goals = chance.sample(range(len(changes)), chance.randrange(len(changes) + 1))
            self.check_plan(changes, settled, goals)
            self.check_plan(changes, settled, list(range(len(changes))))

    def test_many(self):
        panes = [number % 2 for number in range(MANY)]
        self.assertEqual(plan(in_line(panes), [], [MANY - 1]), panes)
        self.assertEqual(plan(in_line([3] * MANY), [], list(range(MANY))), [3])
        self.assertEqual(plan(in_line(panes), list(range(MANY - 2)), [MANY - 1]), [0, 1])


if __name__ == "__main__":
    unittest.main()
