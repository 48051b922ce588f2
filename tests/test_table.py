import copy
import itertools
import random
import unittest

from ripestone.bench import Bench
from ripestone.errors import BadStone, Full, NoDeed, NoKey, NoPlace, NoWorth, StoneError, Twice
from ripestone.records import blank_stone, fresh_age
from ripestone.strings import rows_found
from ripestone.table import Table
from ripestone.weaver import Weaver
from tests import test_strings
from tests.ground import (
    PlainTable, aged, ask, ask_by_chance, closed_sets, deed_by_chance, deeds_of, laid_by_words, lists_in,
    made_by_words, rows_by_words, sound_by_chance, spoil, strung, told_of_table, told_of_weaver, told_often,
)

GREAT = 10**60 - 1
SIZES = list(itertools.product(range(1, 9), repeat=2))
# Key 10: not sealed, its was counts; 20: sealed, its now counts; 30: age 0; 40: not sealed, none; 50: sealed, none.
STRUNG = [(2, 10, 5, 6, 1), (4, 20, 5, 7, 4), (1, 30, 5, 8, 0), (5, 40, -1, 9, 2), (3, 50, 5, -1, 4)]


def changes_of(table):
    return table.weaver.bench.changes()


def deciding(table, deed):
    return table.weaver.bench.change(table.decider(deed))


def carve_all(table):
    """Rounds of whole carvings till nothing waits."""
    while table.weaver.bench.waiting():
        for pane in range(len(table.stone())):
            table.carve(pane)


class OfAnythingTest(test_strings.SoundTest):
    """Whatever the tests of sound stones name: a table comes up of it, or it is refused with BadStone."""

    def sound(self, stone):
        kept = copy.deepcopy(stone)
        table = Table(stone)
        self.assertEqual(table.stone(), kept)
        self.assertEqual(table.rows(), rows_by_words(kept))

    def unsound(self, thing):
        with self.assertRaises(BadStone) as caught:
            Table(thing)
        self.assertIs(type(caught.exception), BadStone)


class ComingUpTest(unittest.TestCase):
    def test_of_blank_stones(self):
        for panes, rows in SIZES:
            table = Table(blank_stone(panes, rows))
            self.assertEqual(table.stone(), blank_stone(panes, rows))
            self.assertEqual(changes_of(table), [])
            self.assertEqual((table.rows(), table.many_deeds(), table.standing()), ([], 0, []))
            self.assertEqual(table.weaver.free(), list(range(1, panes * rows)))
            table.pact([])
            self.assertEqual(changes_of(table), [(1 % panes, rows, (1,), ())])

    def test_by_hand(self):
        table = Table(aged(3, 2, STRUNG, (0, 4, 0)))
        self.assertEqual(changes_of(table), [
            (2, 0, (10, 4, -1, 5, 0), ()),
            (1, 1, (20, 1, -1, 7, 0), ()),
            (1, 0, (30, 3, 5, 8, 0), ()),
            (1, 0, (30, 0, 5, 8, 0), (2,)),
        ])
        self.assertEqual(table.rows(), [(10, 5), (20, 7), (30, 8)])
        self.assertEqual(table.weaver.free(), [3, 5])
        self.assertEqual(table.many_deeds(), 0)
        self.assertEqual(table.standing(), [])
        # The ages 5, 6 and 7: for the seal of pane 2 change 2 is held, for that of pane 1 the changes 0, 1 and 3.
        for deed, changed in enumerate([(2, 2, (5,), (2,)), (0, 2, (6,), ()), (1, 2, (7,), (0, 1, 3))]):
            self.assertEqual(table.pact([]), deed)
            self.assertEqual(deciding(table, deed), changed)
        # Pacts without parts hold nothing in the place of what was held.
        for deed, changed in enumerate([(2, 2, (8,), (4,)), (0, 2, (9,), (5,)), (1, 2, (10,), (6,))], 3):
            self.assertEqual(table.pact([]), deed)
            self.assertEqual(deciding(table, deed), changed)

    def test_in_the_strings_order_and_not_in_that_of_the_boxes(self):
        for boxes in itertools.permutations(range(1, 5)):
            table = Table(aged(5, 1, [(box, key, box, 9, 1) for box, key in zip(boxes, (1, 2, 3, 4))], (0,) * 5))
            self.assertEqual([change[0] for change in changes_of(table)], list(boxes))
            self.assertEqual(table.rows(), list(zip((1, 2, 3, 4), boxes)))

    def test_boxes_of_age_0_are_left_as_they_are(self):
        stone = strung(2, 3, [4, 1, 5], [10, 20, 30])
        stone[0][0] = (0, 4, 5, 6, 7)
        stone[0][1] = (15, 4, 5, 6, 7)
        stone[1][0] = (20, 5, 9, 1, 0)
        table = Table(stone)
        self.assertEqual(changes_of(table), [])
        self.assertEqual(table.rows(), [(10, 4), (20, 1), (30, 5)])

    def test_the_next_age_is_the_fresh_one(self):
        for panes, rows in ((1, 3), (3, 2), (2, 4)):
            for box in range(panes * rows):
                stone = strung(panes, rows, [2, 1])
                key, following, was, now, age = stone[box % panes][box // panes]
                stone[box % panes][box // panes] = (key, following, was, now, 11)
                table = Table(stone)
                for deed, age in ((0, 12), (1, 13)):
                    table.pact([("put", 100 + deed, 3)] if table.weaver.free() else [])
                    self.assertEqual(deciding(table, deed)[:3], (age % panes, rows, (age,)))
            for pane in range(panes):
                stone = strung(panes, rows, [2, 1])
                stone[pane][rows] = (GREAT,)
                table = Table(stone)
                table.pact([])
                self.assertEqual(deciding(table, 0)[:3], ((GREAT + 1) % panes, rows, (GREAT + 1,)))

    def test_as_the_document_says_it(self):
        for seed in range(150):
            chance = random.Random(seed)
            stone = sound_by_chance(chance, chance.randrange(1, 6), chance.randrange(1, 4))
            table = Table(copy.deepcopy(stone))
            plain = PlainTable(stone)
            self.assertEqual(told_of_table(table), plain.told(), seed)
            # One pact for each seal tells what is held for it; the second one that nothing else is.
            for deed in range(2 * len(stone)):
                table.pact([])
                plain.ask(False, [], None)
            self.assertEqual(told_of_table(table), plain.told(), seed)

    def test_strings_of_all_boxes(self):
        for seed in range(40):
            chance = random.Random(500 + seed)
            panes = chance.randrange(2, 5)
            boxes = chance.sample(range(1, 3 * panes), 3 * panes - 1)
            keys = sorted(chance.sample(range(-30, 30), len(boxes)))
            told = [
                (box, key, chance.randrange(-1, 4), chance.randrange(4), chance.randrange(5))
                for box, key in zip(boxes, keys)
            ]
            stone = aged(panes, 3, told, [chance.randrange(5) for pane in range(panes)])
            self.assertEqual(told_of_table(Table(stone)), PlainTable(stone).told(), seed)

    def test_it_changes_nothing_that_is_found(self):
        for seed in range(60):
            stone = sound_by_chance(random.Random(1000 + seed), 3, 2)
            table = Table(stone)
            self.assertEqual(table.stone(), stone)
            self.assertEqual(table.rows(), rows_by_words(stone))
            changes = changes_of(table)
            for some in closed_sets([change[3] for change in changes]):
                self.assertEqual(rows_found(laid_by_words(stone, changes, some)), rows_by_words(stone), (seed, some))

    def test_it_gives_back_each_box_that_is_not_found(self):
        for seed in range(60):
            chance = random.Random(1500 + seed)
            stone = sound_by_chance(chance, chance.randrange(1, 5), chance.randrange(1, 4))
            table = Table(stone)
            many = len(stone) * (len(stone[0]) - 1) - 1
            keys = range(100, 100 + many - len(rows_by_words(stone)))
            for key in keys:
                table.put(key, 1)
            self.assertEqual(len(table.rows()), many)
            self.assertRaises(Full, table.put, 200, 1)
            carve_all(table)
            self.assertEqual(rows_found(table.stone()), rows_by_words(stone) + [(key, 1) for key in keys])

    def test_of_what(self):
        for thing in (None, 0, "", "ripestone", (), {}, [], [[]], [[(0,)]], [[(0, 0, -1, -1, 0)]], object(), Table):
            self.assertRaises(BadStone, Table, thing)

    def test_the_weaver(self):
        table = Table(aged(3, 2, STRUNG, (0, 4, 0)))
        self.assertIsInstance(table.weaver, Weaver)
        self.assertIsInstance(table.weaver.bench, Bench)
        self.assertIs(table.weaver, table.weaver)


class AskedTest(unittest.TestCase):
    """Numbers, wishes and refusals, which puts, takes and pacts have alike."""

    def setUp(self):
        self.table = Table(strung(2, 3, [4, 1], [10, 20]))

    def test_numbers_from_0_on(self):
        for deed in range(4):
            self.assertEqual(self.table.many_deeds(), deed)
            self.assertEqual(ask(self.table, deed % 2 == 0, [("put", 10, deed)], None), deed)
        self.assertEqual(self.table.take(10), 4)
        self.assertEqual(self.table.pact([]), 5)
        for pane in (0, 1, 0, 1):
            self.table.carve(pane)
        self.assertEqual(self.table.put(10, 4), 6)
        self.assertEqual(self.table.many_deeds(), 7)

    def test_wishes_left_out_none_and_empty(self):
        for after in ((), (None,), ([],)):
            self.setUp()
            self.table.put(10, 7)
            self.assertEqual(self.table.put(20, 7, *after), 1)
            self.assertEqual(self.table.take(20, *after), 2)
            self.assertEqual(self.table.pact([("put", 30, 1)], *after), 3)
            self.assertEqual([self.table.wishes_of(deed) for deed in range(4)], [[], [], [], []])
            self.assertEqual([deciding(self.table, deed)[3] for deed in range(4)], [(), (), (0, 1), (4,)])

    def test_wishes_by_their_name(self):
        self.table.put(10, 7)
        self.assertEqual(self.table.put(key=20, amount=7, after=[0]), 1)
        self.assertEqual(self.table.take(key=20, after=[1]), 2)
        self.assertEqual(self.table.pact(parts=[], after=[2, 0]), 3)
        self.assertEqual([self.table.wishes_of(deed) for deed in range(4)], [[], [0], [1], [0, 2]])

    def test_wishes_in_any_order_and_several_times(self):
        asked = ((True, [("put", 10, 5)]), (True, [("put", 30, 5)]), (True, [("take", 20)]), (False, []),
                 (False, [("put", 30, 5), ("take", 10)]))
        for alone, parts in asked:
            for after in ([2, 0, 5], [5, 2, 0], [0, 0, 5, 2, 5], told_often([0, 2, 5])):
                told = []
                for wishes in (after, [0, 2, 5]):
                    self.setUp()
                    for deed in range(6):
                        self.table.pact([])
                    self.assertEqual(ask(self.table, alone, parts, wishes), 6)
                    self.assertEqual(self.table.wishes_of(6), [0, 2, 5])
                    # The pacts are decided by the changes of their numbers.
                    self.assertLessEqual({0, 2, 5}, set(deciding(self.table, 6)[3]))
                    self.assertFalse({1, 3} & set(deciding(self.table, 6)[3]))
                    told.append(told_of_table(self.table))
                self.assertEqual(told[0], told[1])

    def refused(self, error, alone, parts, after=None):
        before = told_of_table(self.table)
        handed = copy.deepcopy((parts, after))
        with self.assertRaises(error) as caught:
            ask(self.table, alone, parts, after)
        self.assertIs(type(caught.exception), error)
        self.assertIsInstance(caught.exception, StoneError)
        self.assertEqual(told_of_table(self.table), before)
        self.assertEqual((parts, after), handed)

    def refused_both(self, error, part, after=None):
        self.refused(error, True, [part], after)
        self.refused(error, False, [part], after)

    def test_no_deed(self):
        for many in range(3):
            for part in (("put", 10, 1), ("put", 30, 1), ("take", 20)):
                for wish in (many, many + 1, 50, -1, -2, -many, GREAT, -GREAT):
                    if not 0 <= wish < many:
                        self.refused_both(NoDeed, part, [wish])
                        self.refused(NoDeed, False, [], [wish])
                    for deed in range(many):
                        if not 0 <= wish < many:
                            self.refused_both(NoDeed, part, [deed, wish])
                            self.refused_both(NoDeed, part, [wish, deed])
            self.table.put(10, many)

    def test_changes_are_no_deeds(self):
        self.table.put(30, 1)
        self.assertEqual(len(changes_of(self.table)), 2)
        self.refused_both(NoDeed, ("put", 10, 1), [1])

    def test_deeds_of_another_table_are_none(self):
        other = Table(strung(2, 3, [4, 1], [10, 20]))
        other.put(10, 1)
        self.refused_both(NoDeed, ("put", 10, 1), [0])

    def test_no_worth(self):
        for worth in (-1, -2, -GREAT):
            self.refused_both(NoWorth, ("put", 10, worth))
            self.refused_both(NoWorth, ("put", 30, worth))
        self.refused(NoWorth, False, [("put", 10, 1), ("take", 20), ("put", 30, -1)])

    def test_no_key(self):
        for key in (0, 4, 1, 15, -10, GREAT):
            self.refused_both(NoKey, ("take", key))
        self.refused(NoKey, False, [("put", 10, 1), ("take", 30)])

    def test_twice(self):
        for first, second in itertools.product((("put", 10, 1), ("take", 10)), repeat=2):
            self.refused(Twice, False, [first, second])
            self.refused(Twice, False, [("put", 30, 1), first, ("take", 20), second])
        self.refused(Twice, False, [("put", 30, 1), ("put", 30, 1)])

    def test_by_the_newest_rows_and_not_by_those_found(self):
        self.table.put(30, 1)
        self.table.take(10)
        self.table.pact([("put", 5, 1), ("take", 20)])
        self.assertEqual(rows_found(self.table.stone()), [(10, 4), (20, 1)])
        self.refused_both(NoKey, ("take", 10))
        self.refused_both(NoKey, ("take", 20))
        self.assertEqual(self.table.take(30), 3)
        self.assertEqual(self.table.pact([("take", 5)]), 4)

    def test_by_the_rows_without_the_boxes_that_coming_up_lets_leave(self):
        self.table = Table(aged(3, 2, STRUNG, (0, 4, 0)))
        self.refused_both(NoKey, ("take", 40))
        self.refused_both(NoKey, ("take", 50))

    def test_a_pacts_own_parts_make_no_key_to_take(self):
        self.refused(Twice, False, [("put", 30, 1), ("take", 30)])

    def test_full(self):
        for key in (30, 40, 50):
            self.table.put(key, 1)
        for key in (0, 15, 60, -GREAT):
            self.refused_both(Full, ("put", key, 1))
        self.refused(Full, False, [("put", 10, 1), ("put", 60, 1)])
        # What the takes give back is free behind the pact alone.
        self.refused(Full, False, [("take", 10), ("take", 20), ("put", 60, 1)])
        self.assertEqual(self.table.put(30, 2), 3)
        self.assertEqual(self.table.pact([("put", 10, 1), ("put", 50, 2), ("take", 20)]), 4)
        self.assertEqual(self.table.pact([("put", 60, 1)]), 5)
        self.refused_both(Full, ("put", 15, 1))

    def test_full_just_where_fewer_are_free(self):
        for filled in range(4):
            for entering in range(5):
                for others in ([], [("put", 10, 9)], [("take", 10)], [("take", 20), ("put", 10, 9)]):
                    self.setUp()
                    for key in range(filled):
                        self.table.put(30 + key, 1)
                    parts = others[:1] + [("put", 60 + key, 1) for key in range(entering)] + others[1:]
                    if filled + entering > 3:
                        self.refused(Full, False, parts)
                    else:
                        self.assertEqual(self.table.pact(parts), filled)

    def test_carvings_give_no_box_back(self):
        for key in (30, 40, 50):
            self.table.put(key, 1)
        carve_all(self.table)
        self.refused_both(Full, ("put", 60, 1))
        self.table.take(30)
        self.assertEqual(self.table.put(60, 1), 4)

    def test_the_least_stones(self):
        self.table = Table(blank_stone(1, 1))
        self.refused_both(Full, ("put", 1, 1))
        self.refused_both(NoKey, ("take", 1))
        self.assertEqual(self.table.pact([]), 0)
        self.assertEqual(self.table.carve(0), [0])
        self.table = Table(blank_stone(1, 2))
        self.assertEqual(self.table.put(1, 1), 0)
        self.refused_both(Full, ("put", 2, 1))
        self.refused(Full, False, [("take", 1), ("put", 2, 1)])
        self.assertEqual(self.table.take(1), 1)
        self.assertEqual(self.table.put(2, 1), 2)

    def test_which_goes_first(self):
        for key in (30, 40, 50):
            self.table.put(key, 1)
        bad = [("put", 60, -1), ("take", 60), ("put", 60, 1), ("put", 10, -1)]
        for part, error in zip(bad, (NoWorth, NoKey, Full, NoWorth)):
            self.refused_both(NoDeed, part, [3])
            self.refused_both(NoDeed, part, [0, -1])
            self.refused_both(error, part, [2, 0])
            self.refused(NoDeed, False, [("put", 10, 1), ("put", 10, 1), part], [3])
            self.refused(Twice, False, [("put", 10, 1), ("put", 10, 1), part], [2])
        self.refused(NoWorth, False, [("put", 60, 1), ("put", 10, -1)])
        self.refused(NoKey, False, [("put", 60, 1), ("take", 70)])
        self.refused(Twice, False, [("put", 60, 1), ("put", 60, 1)])

    def test_all_small_pacts(self):
        kinds = [("put", 10, 1), ("put", 60, 1), ("put", 70, 0), ("put", 60, -1), ("take", 10), ("take", 60)]
        for free in (0, 1, 2):
            stone = strung(2, 3, [4, 1, 2, 3, 5][:5 - free], [10, 20, 30, 40, 50][:5 - free])
            for many in range(4):
                for parts in itertools.product(kinds, repeat=many):
                    for after in ([0], [0, 1]):
                        table = Table(stone)
                        plain = PlainTable(stone)
                        table.pact([])
                        plain.ask(False, [], [])
                        error = plain.refusal(list(parts), after)
                        if error is None:
                            self.assertEqual(table.pact(list(parts), after), 1)
                        else:
                            before = len(changes_of(table))
                            self.assertRaises(error, table.pact, list(parts), after)
                            self.assertEqual((len(changes_of(table)), table.many_deeds()), (before, 1))

    def test_what_is_refused_changes_nothing_later(self):
        for seed in range(60):
            chance = random.Random(4000 + seed)
            stone = sound_by_chance(chance, chance.randrange(1, 4), 2)
            table = Table(stone)
            other = Table(stone)
            for deed in range(12):
                alone, parts, after = deed_by_chance(chance, [-5, 0, 5, 10, 20], table.many_deeds())
                after = (after or []) + chance.choice(([], [], [table.many_deeds()], [-1]))
                parts = parts + chance.choice(([], [], [("put", 20, -1)])) if not alone else parts
                try:
                    ask(table, alone, parts, after)
                except StoneError:
                    continue
                ask(other, alone, parts, after)
            self.assertEqual(told_of_table(table), told_of_table(other), seed)

    def test_the_age_is_not_used_up_by_what_is_refused(self):
        self.table.pact([])
        for key in (30, 40, 50):
            self.table.put(key, 1)
        self.refused(NoDeed, False, [], [7])
        self.refused(Twice, False, [("put", 10, 1), ("put", 10, 1)])
        self.refused(NoWorth, False, [("put", 10, -1)])
        self.refused(NoKey, False, [("take", 70)])
        self.refused(Full, False, [("put", 70, 1)])
        self.table.pact([])
        self.assertEqual(deciding(self.table, 4)[:3], (0, 3, (2,)))

    def test_neither_a_put_nor_a_take_uses_up_an_age(self):
        self.table.put(30, 1)
        self.table.put(10, 1)
        self.table.take(20)
        self.table.pact([])
        self.table.put(30, 2)
        self.table.pact([])
        self.assertEqual([deciding(self.table, deed)[:3] for deed in (3, 5)], [(1, 3, (1,)), (0, 3, (2,))])


class AloneTest(unittest.TestCase):
    """Puts and takes by themselves."""

    def test_by_hand(self):
        table = Table(blank_stone(2, 2))
        self.assertEqual(table.put(7, 5), 0)
        self.assertEqual(table.put(3, 6, [0]), 1)
        self.assertEqual(table.put(7, 8, [1]), 2)
        self.assertEqual(table.take(7, [0, 2, 0]), 3)
        self.assertEqual(changes_of(table), [
            (1, 0, (7, 0, -1, 5, 0), ()),
            (0, 0, (0, 1, -1, -1, 0), (0,)),
            (0, 1, (3, 1, -1, 6, 0), ()),
            (0, 0, (0, 2, -1, -1, 0), (1, 2)),
            (1, 0, (7, 0, -1, 8, 0), (0, 1, 3)),
            (0, 1, (3, 0, -1, 6, 0), (1, 2, 3, 4)),
        ])
        self.assertEqual([table.decider(deed) for deed in range(4)], [1, 3, 4, 5])
        self.assertEqual([table.parts_of(deed) for deed in range(4)], [
            [("put", 7, 5)], [("put", 3, 6)], [("put", 7, 8)], [("take", 7)],
        ])
        self.assertEqual([table.wishes_of(deed) for deed in range(4)], [[], [0], [1], [0, 2]])
        self.assertEqual(table.rows(), [(3, 6)])

    def test_a_put_of_a_key_that_is_not_there(self):
        table = Table(strung(2, 3, [4, 1], [10, 20]))
        table.put(15, 9)
        self.assertEqual(changes_of(table), [(0, 1, (15, 1, -1, 9, 0), ()), (0, 2, (10, 2, -1, 4, 0), (0,))])
        self.assertEqual(table.decider(0), 1)

    def test_a_put_of_a_key_that_is_there(self):
        table = Table(strung(2, 3, [4, 1], [10, 20]))
        table.put(20, 9)
        table.put(20, 1)
        self.assertEqual(changes_of(table), [(1, 0, (20, 0, -1, 9, 0), ()), (1, 0, (20, 0, -1, 1, 0), (0,))])
        self.assertEqual([table.decider(0), table.decider(1)], [0, 1])

    def test_a_put_of_the_worth_that_is_there_is_a_change_too(self):
        table = Table(strung(2, 3, [4, 1], [10, 20]))
        self.assertEqual(table.put(10, 4), 0)
        self.assertEqual(changes_of(table), [(0, 2, (10, 1, -1, 4, 0), ())])

    def test_a_take(self):
        table = Table(strung(2, 3, [4, 1], [10, 20]))
        table.take(10)
        table.take(20)
        self.assertEqual(changes_of(table), [(0, 0, (0, 1, -1, 0, 0), ()), (0, 0, (0, 0, -1, 0, 0), (0,))])
        self.assertEqual([table.decider(0), table.decider(1)], [0, 1])
        self.assertEqual(table.weaver.free(), [1, 2, 3, 4, 5])

    def test_a_key_that_was_taken_is_put_again(self):
        table = Table(strung(2, 2, [3], [10]))
        table.take(10)
        table.put(10, 6)
        self.assertEqual(changes_of(table), [
            (0, 0, (0, 0, -1, 0, 0), ()), (1, 0, (10, 0, -1, 6, 0), ()), (0, 0, (0, 1, -1, 0, 0), (0, 1)),
        ])
        self.assertEqual(table.get(10), 6)

    def test_wishes_are_among_the_needs_of_the_deciding_change_alone(self):
        for part, many in ((("put", 15, 9), 2), (("put", 20, 9), 1), (("take", 20), 1)):
            table = Table(strung(2, 3, [4, 1], [10, 20]))
            # Decided by change 1, of which change 0 is the first half.
            table.put(30, 1)
            before = len(changes_of(table))
            ask(table, True, [part], [0])
            self.assertEqual(len(changes_of(table)), before + many)
            self.assertEqual(table.decider(1), before + many - 1)
            self.assertIn(1, deciding(table, 1)[3])
            for change in changes_of(table)[before:-1]:
                self.assertEqual(change[3], ())

    def test_wishes_are_needed_by_their_deciding_changes(self):
        table = Table(strung(2, 3, [4, 1], [10, 20]))
        table.pact([("put", 20, 5)])
        self.assertEqual(len(changes_of(table)), 3)
        table.put(10, 6, [0])
        self.assertEqual(deciding(table, 1), (0, 2, (10, 1, -1, 6, 0), (1,)))

    def test_great_numbers(self):
        table = Table(blank_stone(3, 2))
        table.put(GREAT, GREAT)
        table.put(-GREAT, 0)
        self.assertEqual(table.rows(), [(-GREAT, 0), (GREAT, GREAT)])
        self.assertEqual((table.get(GREAT), table.get(-GREAT), table.get(GREAT - 1)), (GREAT, 0, None))
        table.take(GREAT)
        carve_all(table)
        self.assertEqual(rows_found(table.stone()), [(-GREAT, 0)])

    def test_of_a_deed_that_is_none(self):
        table = Table(strung(2, 3, [4, 1], [10, 20]))
        for many in range(3):
            for deed in (many, many + 1, 9, -1, -2, GREAT, -GREAT):
                if not 0 <= deed < many:
                    for told in (table.decider, table.parts_of, table.wishes_of):
                        with self.assertRaises(NoDeed) as caught:
                            told(deed)
                        self.assertIs(type(caught.exception), NoDeed)
            table.put(30, 1)


class PactTest(unittest.TestCase):
    def setUp(self):
        self.table = Table(strung(2, 3, [4, 1], [10, 20]))

    def test_puts_and_takes(self):
        self.assertEqual(self.table.pact([("take", 20), ("put", 15, 3), ("put", 10, 9)]), 0)
        self.assertEqual(changes_of(self.table), [
            (1, 0, (20, 0, 1, -1, 1), ()),
            (0, 1, (15, 1, -1, 3, 1), ()),
            (0, 2, (10, 2, -1, 4, 0), (1,)),
            (0, 2, (10, 2, 4, 9, 1), (2,)),
            (1, 3, (1,), (0, 2, 3)),
            # Tidied part by part: 20 leaves, behind box 2, which came in with 2; 15 and 10 are rewritten.
            (0, 1, (15, 0, -1, 3, 1), (0, 1, 2, 4)),
            (0, 1, (15, 0, -1, 3, 0), (2, 4, 5)),
            (0, 2, (10, 2, -1, 9, 0), (3, 4)),
        ])
        self.assertEqual(self.table.decider(0), 4)
        self.assertEqual(self.table.parts_of(0), [("take", 20), ("put", 15, 3), ("put", 10, 9)])
        self.assertEqual(self.table.wishes_of(0), [])
        self.assertEqual(self.table.rows(), [(10, 9), (15, 3)])
        self.assertEqual(self.table.weaver.free(), [1, 3, 5])

    def test_no_parts(self):
        self.assertEqual(self.table.pact([]), 0)
        self.assertEqual(self.table.pact([], [0]), 1)
        self.assertEqual(changes_of(self.table), [(1, 3, (1,), ()), (0, 3, (2,), (0,))])
        self.assertEqual([self.table.decider(0), self.table.decider(1)], [0, 1])
        self.assertEqual(self.table.parts_of(0), [])
        self.assertEqual(self.table.rows(), [(10, 4), (20, 1)])

    def test_one_part(self):
        for part, told, decider in (
            (("put", 10, 7), [
                (0, 2, (10, 1, 4, 7, 1), ()), (1, 3, (1,), (0,)), (0, 2, (10, 1, -1, 7, 0), (0, 1)),
            ], 1),
            (("put", 30, 7), [
                (0, 1, (30, 0, -1, 7, 1), ()), (1, 0, (20, 2, -1, 1, 0), (0,)), (1, 3, (1,), (1,)),
                (0, 1, (30, 0, -1, 7, 0), (0, 1, 2)),
            ], 2),
            (("take", 10), [
                (0, 2, (10, 1, 4, -1, 1), ()), (1, 3, (1,), (0,)), (0, 0, (0, 1, -1, 0, 0), (0, 1)),
            ], 1),
        ):
            self.setUp()
            self.assertEqual(self.table.pact([part]), 0)
            self.assertEqual(changes_of(self.table), told)
            self.assertEqual(self.table.decider(0), decider)

    def test_the_order_of_the_parts_counts(self):
        self.table.pact([("put", 20, 1), ("put", 10, 2)])
        self.assertEqual([change[:2] for change in changes_of(self.table)], [(1, 0), (0, 2), (1, 3), (1, 0), (0, 2)])
        self.setUp()
        self.table.pact([("put", 10, 2), ("put", 20, 1)])
        self.assertEqual([change[:2] for change in changes_of(self.table)], [(0, 2), (1, 0), (1, 3), (0, 2), (1, 0)])

    def test_keys_that_come_in_next_to_one_another(self):
        self.table.pact([("put", 30, 1), ("put", 40, 2)])
        self.assertEqual(changes_of(self.table), [
            (0, 1, (30, 0, -1, 1, 1), ()),
            (1, 0, (20, 2, -1, 1, 0), (0,)),
            (1, 1, (40, 0, -1, 2, 1), ()),
            (0, 1, (30, 3, -1, 1, 1), (0, 1, 2)),
            (1, 3, (1,), (1, 3)),
            (0, 1, (30, 3, -1, 1, 0), (1, 3, 4)),
            (1, 1, (40, 0, -1, 2, 0), (2, 3, 4)),
        ])

    def test_the_newest_worth_is_the_was(self):
        self.table.put(10, 6)
        self.table.pact([("put", 10, 8)])
        self.table.pact([("take", 10), ("put", 20, 5)])
        self.assertEqual([change[2] for change in changes_of(self.table)], [
            (10, 1, -1, 6, 0), (10, 1, 6, 8, 1), (1,), (10, 1, -1, 8, 0),
            (10, 1, 8, -1, 2), (20, 0, 1, 5, 2), (2,), (0, 1, -1, 0, 0), (20, 0, -1, 5, 0),
        ])

    def test_wishes_are_needed_by_the_sealing_change_alone(self):
        for parts, sealing in (([], 2), ([("put", 30, 1)], 4), ([("put", 20, 1), ("take", 10)], 4)):
            self.setUp()
            self.table.put(15, 1)
            self.table.pact(parts, [0])
            self.assertEqual(self.table.decider(1), sealing)
            self.assertIn(1, deciding(self.table, 1)[3])
            plain = PlainTable(strung(2, 3, [4, 1], [10, 20]))
            plain.ask(True, [("put", 15, 1)], None)
            plain.ask(False, parts, None)
            needed = [change[3] for number, change in enumerate(changes_of(self.table)) if number != sealing]
            self.assertEqual(needed, [
                change[3] for number, change in enumerate(plain.plain.changes) if number != sealing
            ])

    def test_what_is_held_for_the_seal(self):
        self.table.pact([("put", 10, 7)])
        self.table.pact([("put", 20, 7), ("put", 30, 5)])
        self.table.pact([])
        # The first pact's sealing change is 1 and its tidying 2; the third one is of the same seal.
        self.assertEqual(deciding(self.table, 2), (1, 3, (3,), (1, 2)))
        self.table.pact([("put", 20, 8)])
        # The second one's sealing change is 6, its tidying 7 and 8; the fourth one's rewriting is 10.
        self.assertEqual(self.table.decider(1), 6)
        self.assertEqual(deciding(self.table, 3), (0, 3, (4,), (6, 7, 8, 10)))
        self.table.pact([])
        self.assertEqual(deciding(self.table, 4), (1, 3, (5,), (9,)))
        self.table.pact([("take", 30)])
        self.assertEqual(deciding(self.table, 5), (0, 3, (6,), (11, 12, 14)))

    def test_more_pacts_than_panes(self):
        for panes in range(1, 9):
            stone = blank_stone(panes, 2)
            table = Table(stone)
            plain = PlainTable(stone)
            for number in range(3 * panes + 1):
                parts = [("put", number % 3, number)][:panes * 2 - 1]
                if plain.refusal(parts, None):
                    parts = []
                table.pact(parts)
                plain.ask(False, parts, None)
                self.assertEqual(deciding(table, number)[:3], ((number + 1) % panes, 2, (number + 1,)))
            self.assertEqual(told_of_table(table), plain.told())
            carve_all(table)
            self.assertEqual(table.standing(), list(range(3 * panes + 1)))
            self.assertEqual(rows_found(table.stone()), table.rows())

    def test_the_age_grows_by_one_with_each(self):
        stone = strung(3, 2, [4, 1], [10, 20])
        stone[0][2] = (41,)
        table = Table(stone)
        for number in range(7):
            table.put(10, number)
            table.pact([("put", 10, number)] if number % 2 else [])
            age = 42 + number
            self.assertEqual(deciding(table, 2 * number + 1)[:3], (age % 3, 2, (age,)))


class CarveTest(unittest.TestCase):
    def setUp(self):
        self.table = Table(blank_stone(2, 2))
        self.table.put(7, 5)
        self.table.put(3, 6)
        self.table.pact([("put", 7, 8), ("take", 3)])
        self.table.put(7, 9)

    def test_whole_carvings(self):
        self.assertEqual(self.table.carve(0), [])
        self.assertEqual(self.table.carve(1), [])
        self.assertEqual(self.table.standing(), [])
        self.assertEqual(self.table.carve(0), [0, 1])
        self.assertEqual(self.table.standing(), [0, 1])
        self.assertEqual(rows_found(self.table.stone()), [(3, 6), (7, 5)])
        # The pact's seal and the key 7 are of pane 1.
        self.assertEqual(self.table.carve(1), [2, 3])
        self.assertEqual(self.table.standing(), [0, 1, 2, 3])
        self.assertEqual(rows_found(self.table.stone()), [(7, 9)])
        self.assertEqual(self.table.carve(0), [])
        self.assertEqual(self.table.carve(1), [])

    def test_broken_off(self):
        self.table.carve(1)
        self.assertEqual(self.table.carve(0, 0), [])
        self.assertEqual(self.table.carve(0, 1), [0])
        self.assertEqual(self.table.carve(0, most=1), [])
        self.assertEqual(self.table.carve(pane=0, most=1), [1])
        self.assertEqual(self.table.carve(0, 100), [])
        self.assertEqual(self.table.standing(), [0, 1])
        self.assertEqual(self.table.carve(1, None), [2, 3])

    def test_no_such_pane(self):
        for pane in (2, 3, 8, -1, -2, GREAT, -GREAT):
            for most in (None, 0, 1):
                before = told_of_table(self.table)
                with self.assertRaises(NoPlace) as caught:
                    self.table.carve(pane, most)
                self.assertIs(type(caught.exception), NoPlace)
                self.assertEqual(told_of_table(self.table), before)

    def test_the_bench_carved_by_itself(self):
        self.table.weaver.bench.carve(1)
        self.table.weaver.bench.carve(0, 1)
        self.assertEqual(self.table.standing(), [0])
        self.assertEqual(self.table.carve(0), [1])
        self.table.weaver.bench.carve(1)
        self.assertEqual(self.table.standing(), [0, 1, 2, 3])
        self.assertEqual(self.table.carve(1), [])
        self.assertEqual(rows_found(self.table.stone()), [(7, 9)])

    def test_a_deed_asked_for_behind_a_carving(self):
        carve_all(self.table)
        self.table.put(7, 1)
        self.assertEqual(self.table.standing(), [0, 1, 2, 3])
        self.assertEqual(self.table.carve(1), [4])

    def test_changes_that_decide_nothing_are_not_told(self):
        table = Table(aged(3, 2, STRUNG, (0, 4, 0)))
        for pane in range(3):
            self.assertEqual(table.carve(pane), [])
        self.assertEqual(table.weaver.bench.waiting(), [])
        self.assertEqual(table.standing(), [])

    def test_as_the_document_says_it(self):
        for seed in range(80):
            chance = random.Random(6000 + seed)
            stone = sound_by_chance(chance, chance.randrange(1, 5), chance.randrange(1, 4))
            table = Table(stone)
            stood = []
            for step in range(20):
                ask_by_chance(chance, table, [-5, 0, 5, 10, 20])
                pane = chance.randrange(len(stone))
                most = chance.choice((None, 0, 1, 2, 3))
                if chance.randrange(4) == 0:
                    table.weaver.bench.carve(pane, most)
                    stood = [deed for deed, told in enumerate(deeds_of(table)) if told[0] in
                             table.weaver.bench.settled()]
                else:
                    told = table.carve(pane, most)
                    self.assertEqual(told, sorted(set(table.standing()) - set(stood)), seed)
                    stood = sorted(stood + told)
                self.assertEqual(table.standing(), stood, seed)


class NewestTest(unittest.TestCase):
    def test_get(self):
        table = Table(strung(2, 3, [4, 1], [10, 20]))
        self.assertEqual([table.get(key) for key in (10, 20, 0, 4, 15)], [4, 1, None, None, None])
        table.put(10, 0)
        table.put(15, 3)
        table.pact([("take", 20), ("put", 30, 0)])
        self.assertEqual([table.get(key) for key in (10, 15, 20, 30)], [0, 3, None, 0])
        table.take(10)
        self.assertIsNone(table.get(10))
        self.assertEqual(table.rows(), [(15, 3), (30, 0)])

    def test_neither_the_head_nor_loose_boxes_are_told(self):
        stone = strung(2, 3, [3], [5])
        stone[0][0] = (1, 3, 8, 9, 0)
        stone[0][2] = (6, 0, 8, 9, 0)
        table = Table(stone)
        self.assertEqual((table.rows(), table.get(1), table.get(6), table.get(5)), ([(5, 3)], None, None, 3))

    def test_not_those_that_coming_up_lets_leave(self):
        table = Table(aged(3, 2, STRUNG, (0, 4, 0)))
        self.assertEqual([table.get(key) for key in (10, 20, 30, 40, 50)], [5, 7, 8, None, None])

    def test_the_newest_rows_are_what_all_deeds_make(self):
        for seed in range(80):
            chance = random.Random(7000 + seed)
            stone = sound_by_chance(chance, chance.randrange(1, 5), chance.randrange(1, 4))
            table = Table(stone)
            keys = [key for key, worth in rows_by_words(stone)][:3] + [-50, 50, 60]
            for deed in range(15):
                ask_by_chance(chance, table, keys)
                deeds = deeds_of(table)
                rows = made_by_words(rows_by_words(stone), deeds, range(len(deeds)))
                self.assertEqual(table.rows(), rows, seed)
                self.assertEqual([table.get(key) for key in keys], [dict(rows).get(key) for key in keys])
                table.carve(chance.randrange(len(stone)), chance.choice((None, 0, 1, 2)))
                self.assertEqual(table.rows(), rows, seed)

    def test_once_nothing_waits_all_stand_and_are_found(self):
        for seed in range(40):
            chance = random.Random(7500 + seed)
            stone = sound_by_chance(chance, chance.randrange(1, 5), chance.randrange(1, 4))
            table = Table(stone)
            for deed in range(12):
                ask_by_chance(chance, table, [-50, 0, 20, 50])
            carve_all(table)
            self.assertEqual(table.standing(), list(range(12)))
            self.assertEqual(rows_found(table.stone()), table.rows())


class AnyRowTest(unittest.TestCase):
    """Rows of deeds of any kind, against the document's words."""

    def check(self, stone, chance, keys, many):
        table = Table(stone)
        plain = PlainTable(stone)
        for step in range(many):
            alone, parts, after = deed_by_chance(chance, keys, table.many_deeds())
            error = plain.refusal(parts, after)
            if error is None:
                self.assertEqual(ask(table, alone, parts, after), len(plain.deeds))
                plain.ask(alone, parts, after)
            else:
                self.assertRaises(error, ask, table, alone, parts, after)
            if chance.randrange(3) == 0:
                table.carve(chance.randrange(len(stone)), chance.choice((None, 0, 1, 2)))
        self.assertEqual(told_of_table(table), plain.told(table.weaver.bench.settled()))

    def test_of_blank_stones(self):
        for seed in range(60):
            chance = random.Random(8000 + seed)
            self.check(blank_stone(chance.randrange(1, 5), chance.randrange(1, 4)), chance, [-9, 0, 3, 4, 8], 20)

    def test_of_sound_stones(self):
        for seed in range(100):
            chance = random.Random(8500 + seed)
            stone = sound_by_chance(chance, chance.randrange(1, 5), chance.randrange(1, 4))
            keys = [key for key, worth in rows_by_words(stone)]
            keys = chance.sample(keys, min(len(keys), 3)) + [-99, 0, 99][:chance.randrange(1, 4)]
            self.check(stone, chance, sorted(set(keys)), 12)

    def test_all_small_rows(self):
        asked = [
            (True, [("put", 10, 1)]), (True, [("put", 15, 2)]), (True, [("take", 10)]), (False, []),
            (False, [("put", 15, 3), ("put", 10, 4)]), (False, [("take", 10), ("put", 15, 5)]),
        ]
        for stone in (blank_stone(2, 2), strung(3, 1, [2], [10]), aged(1, 3, [(2, 10, 5, 6, 1)], (1,))):
            for chosen in itertools.product(asked, repeat=3):
                table = Table(stone)
                plain = PlainTable(stone)
                for alone, parts in chosen:
                    after = [len(plain.deeds) - 1] if plain.deeds else None
                    if plain.refusal(parts, after) is None:
                        ask(table, alone, parts, after)
                        plain.ask(alone, parts, after)
                self.assertEqual(deeds_of(table), plain.deeds)
                self.assertEqual(changes_of(table), plain.plain.changes)


class ManyTest(unittest.TestCase):
    def test_many_deeds(self):
        table = Table(blank_stone(8, 8))
        for number in range(1200):
            key = number * 37 % 60
            if number % 5 == 4:
                table.pact([("put", key, number), ("put", key + 1, number)], [number - 1])
            else:
                table.put(key, number)
            if number % 50 == 49:
                for pane in range(8):
                    table.carve(pane)
        carve_all(table)
        self.assertEqual(table.standing(), list(range(1200)))
        self.assertEqual(rows_found(table.stone()), table.rows())


class OwnTableTest(unittest.TestCase):
    def setUp(self):
        self.stone = aged(3, 2, STRUNG, (0, 4, 0))
        self.table = Table(self.stone)

    def ask_some(self, table):
        table.put(10, 1)
        table.pact([("put", 40, 2), ("take", 20)], [0])
        table.carve(2)
        table.put(40, 3, [1, 0])

    def test_the_stone_handed_in(self):
        kept = copy.deepcopy(self.stone)
        self.ask_some(self.table)
        carve_all(self.table)
        self.assertEqual(self.stone, kept)
        other = Table(self.stone)
        before = told_of_table(other)
        spoil(self.stone)
        self.assertEqual(told_of_table(other), before)
        self.ask_some(other)
        carve_all(other)
        self.assertEqual(told_of_table(other), told_of_table(self.table))

    def test_panes_handed_in_that_are_one(self):
        pane = [(0, 0, -1, -1, 0), (0, 0, -1, -1, 0), (0,)]
        table = Table([pane, pane, pane])
        other = Table(blank_stone(3, 2))
        for one in (table, other):
            one.put(5, 6)
            one.pact([("put", 6, 7)])
            carve_all(one)
        self.assertEqual(told_of_table(table), told_of_table(other))
        self.assertEqual(pane, [(0, 0, -1, -1, 0), (0, 0, -1, -1, 0), (0,)])

    def test_the_parts_handed_in(self):
        parts = [("put", 10, 1), ("take", 20)]
        after = []
        self.table.pact(parts, after)
        before = told_of_table(self.table)
        self.assertEqual((parts, after), ([("put", 10, 1), ("take", 20)], []))
        spoil(parts)
        parts.clear()
        after.append(0)
        self.assertEqual(told_of_table(self.table), before)
        self.assertEqual(self.table.parts_of(0), [("put", 10, 1), ("take", 20)])
        self.assertEqual(self.table.wishes_of(0), [])

    def test_the_wishes_handed_in(self):
        for deed in range(3):
            self.table.pact([])
        for alone, parts in ((True, [("put", 10, 1)]), (True, [("take", 10)]), (False, []), (True, [("put", 10, 2)])):
            after = [2, 0, 2]
            deed = ask(self.table, alone, parts, after)
            before = told_of_table(self.table)
            self.assertEqual(after, [2, 0, 2])
            after.append(1)
            after[0] = 1
            self.assertEqual(told_of_table(self.table), before)
            self.assertEqual(self.table.wishes_of(deed), [0, 2])

    def test_what_is_left_out_is_not_kept_from_one_deed_to_the_next(self):
        self.table.put(10, 1)
        self.table.put(30, 1, [0])
        self.table.put(30, 2)
        self.table.take(30)
        self.table.pact([])
        self.assertEqual([self.table.wishes_of(deed) for deed in range(5)], [[], [0], [], [], []])
        self.assertEqual([len(self.table.parts_of(deed)) for deed in range(5)], [1, 1, 1, 1, 0])

    def tellings(self, table):
        return (
            table.rows, table.standing, table.stone,
            lambda: table.parts_of(0), lambda: table.parts_of(1), lambda: table.parts_of(3),
            lambda: table.wishes_of(0), lambda: table.wishes_of(1), lambda: table.wishes_of(2),
        )

    def test_the_lists_told_are_the_askers_own(self):
        self.ask_some(self.table)
        self.table.pact([])
        self.table.carve(2)
        before = told_of_table(self.table)
        for telling in self.tellings(self.table):
            told = telling()
            self.assertIs(type(told), list)
            lists = lists_in(told)
            self.assertEqual(len(lists), len({id(one) for one in lists}))
            spoil(told)
            self.assertEqual(told_of_table(self.table), before)

    def test_a_carvings_list_is_the_askers_own(self):
        self.ask_some(self.table)
        other = Table(aged(3, 2, STRUNG, (0, 4, 0)))
        self.ask_some(other)
        for step in range(4):
            for pane in range(3):
                told = self.table.carve(pane)
                self.assertIs(type(told), list)
                self.assertEqual(told, other.carve(pane))
                spoil(told)
                self.assertEqual(told_of_table(self.table), told_of_table(other))

    def test_what_is_told_stays_as_it_was(self):
        self.ask_some(self.table)
        self.table.pact([])
        told = [telling() for telling in self.tellings(self.table)] + [self.table.carve(2)]
        kept = copy.deepcopy(told)
        self.table.take(40)
        self.table.put(60, 1, [0])
        carve_all(self.table)
        for telling in self.tellings(self.table):
            spoil(telling())
        self.assertEqual(told, kept)

    def test_no_list_told_is_one_handed_in(self):
        parts = [("put", 10, 1)]
        after = []
        self.table.pact(parts, after)
        for told in (self.table.parts_of(0), self.table.wishes_of(0), self.table.stone()):
            for one in lists_in(told):
                self.assertFalse([other for other in lists_in([parts, after, self.stone]) if other is one])

    def test_the_kinds(self):
        self.ask_some(self.table)
        self.assertEqual([type(row) for row in self.table.rows()], [tuple] * 3)
        self.assertEqual([type(part) for part in self.table.parts_of(1)], [tuple, tuple])
        for number in (self.table.many_deeds(), self.table.decider(1), self.table.put(10, 1), self.table.get(10)):
            self.assertIs(type(number), int)
        self.assertIs(type(self.table.take(10)), int)
        self.assertIs(type(self.table.pact([])), int)

    def test_two_tables_of_one_stone_know_nothing_of_one_another(self):
        other = Table(self.stone)
        before = told_of_table(other)
        self.ask_some(self.table)
        carve_all(self.table)
        self.assertEqual(told_of_table(other), before)
        self.assertEqual(told_of_weaver(other.weaver), before[0])
        self.assertEqual(fresh_age(other.stone()), 5)


if __name__ == "__main__":
    unittest.main()
