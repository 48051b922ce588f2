import copy
import itertools
import random
import unittest

from ripestone.errors import NoDeed
from ripestone.papers import turn_of, waits_for, way_for, why
from ripestone.records import blank_stone
from ripestone.table import Table
from tests.ground import (
    aged, ask, ask_by_chance, deeds_of, lists_in, needed_by_words, plan_by_words, rows_by_words, slow_chain_by_words,
    sound_by_chance, spoil, strung, subsets, told_of_table, told_often, turns_by_words,
)

GREAT = 10**60 - 1
KEYS = [-5, 3, 8, 20]


def parts_of_table(table):
    bench = table.weaver.bench
    return (bench.changes(), bench.settled(), deeds_of(table))


def some_table():
    """Two panes: the key 7 is in box 1 of pane 1, the key 3 in box 2 of pane 0, the head is in pane 0."""
    table = Table(blank_stone(2, 2))
    table.put(7, 5)
    table.put(3, 6)
    table.put(7, 8, [1])
    table.pact([("take", 3), ("put", 7, 9)])
    return table


def table_by_chance(chance, deeds):
    stone = sound_by_chance(chance, chance.randrange(1, 5), chance.randrange(1, 4))
    table = Table(stone)
    for deed in range(deeds):
        ask_by_chance(chance, table, KEYS)
        if chance.randrange(3) == 0:
            table.carve(chance.randrange(len(stone)), chance.choice((None, 0, 1, 2)))
    return table


class ByHandTest(unittest.TestCase):
    def test_the_changes(self):
        self.assertEqual([change[:2] + change[3:] for change in some_table().weaver.bench.changes()], [
            (1, 0, ()), (0, 0, (0,)), (0, 1, ()), (0, 0, (1, 2)), (1, 0, (0, 1, 3)),
            (0, 1, (2, 3)), (1, 0, (1, 4)), (1, 2, (5, 6)), (0, 0, (3, 5, 7)), (1, 0, (1, 6, 7)),
        ])

    def test_turn_of(self):
        table = some_table()
        self.assertEqual([turn_of(table, deed) for deed in range(4)], [2, 2, 3, 3])
        table.carve(1)
        self.assertEqual([turn_of(table, deed) for deed in range(4)], [1, 1, 2, 2])
        table.carve(0, 1)
        self.assertEqual([turn_of(table, deed) for deed in range(4)], [0, 1, 2, 2])
        table.carve(0)
        self.assertEqual([turn_of(table, deed) for deed in range(4)], [0, 0, 1, 1])
        table.carve(1)
        self.assertEqual([turn_of(table, deed) for deed in range(4)], [0, 0, 0, 0])

    def test_why(self):
        table = some_table()
        self.assertEqual([why(table, deed) for deed in range(4)], [[1, 0], [3, 1, 0], [4, 1, 0], [7, 5, 3, 1, 0]])
        table.carve(1)
        self.assertEqual([why(table, deed) for deed in range(4)], [[1], [3], [4, 1], [7, 5]])
        table.carve(0)
        self.assertEqual([why(table, deed) for deed in range(4)], [[], [], [4], [7]])
        table.carve(1)
        self.assertEqual([why(table, deed) for deed in range(4)], [[], [], [], []])

    def test_waits_for(self):
        table = some_table()
        self.assertEqual([waits_for(table, deed) for deed in range(4)], [[], [0], [0, 1], [0, 1, 2]])
        table.carve(1)
        table.carve(0, 1)
        self.assertEqual([waits_for(table, deed) for deed in range(4)], [[], [], [1], [1, 2]])
        table.carve(0)
        self.assertEqual([waits_for(table, deed) for deed in range(4)], [[], [], [], [2]])
        table.carve(1, 1)
        self.assertEqual([waits_for(table, deed) for deed in range(4)], [[], [], [], []])

    def test_way_for(self):
        table = some_table()
        # Change 2, of pane 0 and of turn 1, is wanted for all deeds but the first.
        self.assertEqual([way_for(table, [deed]) for deed in range(4)], [[1, 0], [0, 1, 0], [0, 1, 0, 1], [0, 1, 0, 1]])
        self.assertEqual(way_for(table, []), [])
        self.assertEqual(way_for(table, [0, 1]), [0, 1, 0])
        table.carve(1)
        self.assertEqual([way_for(table, [deed]) for deed in range(4)], [[0], [0], [0, 1], [0, 1]])
        self.assertEqual(way_for(table, [0, 3, 1]), [0, 1])
        table.carve(0)
        self.assertEqual(way_for(table, [0, 1]), [])
        self.assertEqual(way_for(table, [1, 3]), [1])

    def test_deeds_that_need_nothing_of_one_another(self):
        table = Table(strung(2, 2, [1, 2], [10, 20]))
        table.put(10, 5)
        table.put(20, 6)
        self.assertEqual([waits_for(table, deed) for deed in (0, 1)], [[], []])
        self.assertEqual([turn_of(table, deed) for deed in (0, 1)], [1, 1])
        self.assertEqual(way_for(table, [1, 0]), [0, 1])
        table.put(20, 7, [0])
        self.assertEqual(waits_for(table, 2), [0, 1])
        self.assertEqual(turn_of(table, 2), 2)

    def test_wishes_are_waited_for_through_others_too(self):
        table = Table(blank_stone(3, 3))
        table.pact([])
        table.pact([], [0])
        table.pact([], [1])
        self.assertEqual(waits_for(table, 2), [0, 1])
        self.assertEqual(turn_of(table, 2), 3)
        self.assertEqual(why(table, 2), [2, 1, 0])
        self.assertEqual(way_for(table, [2]), [1, 2, 0])

    def test_behind_a_coming_up_what_is_tidied_is_waited_for(self):
        table = Table(aged(2, 2, [(3, 10, 5, 6, 3), (1, 20, 5, 7, 2), (2, 30, 5, 8, 5)], (2, 3)))
        table.pact([])
        self.assertEqual(table.weaver.bench.change(table.decider(0))[0], 0)
        self.assertEqual((turn_of(table, 0), why(table, 0), waits_for(table, 0)), (2, [3, 1], []))
        self.assertEqual(way_for(table, [0]), [1, 0])


class RefusedTest(unittest.TestCase):
    def refused(self, table, deed, asked, *handed):
        before = told_of_table(table)
        with self.assertRaises(NoDeed) as caught:
            asked(table, *handed)
        self.assertIs(type(caught.exception), NoDeed)
        self.assertEqual(told_of_table(table), before)

    def test_no_deed(self):
        for many in range(4):
            table = Table(strung(2, 3, [4, 1], [10, 20]))
            for deed in range(many):
                table.put(30, deed)
            for deed in (many, many + 1, 50, -1, -2, -many - 1, GREAT, -GREAT):
                self.refused(table, deed, turn_of, deed)
                self.refused(table, deed, why, deed)
                self.refused(table, deed, waits_for, deed)
                self.refused(table, deed, way_for, [deed])
                for other in range(many):
                    self.refused(table, deed, way_for, [other, deed])
                    self.refused(table, deed, way_for, [deed, other])

    def test_changes_are_no_deeds(self):
        table = some_table()
        self.assertEqual(len(table.weaver.bench.changes()), 10)
        for deed in range(4, 10):
            for asked, handed in ((turn_of, deed), (why, deed), (waits_for, deed), (way_for, [deed])):
                self.refused(table, deed, asked, handed)

    def test_of_a_table_without_deeds(self):
        table = Table(blank_stone(2, 2))
        for asked, handed in ((turn_of, 0), (why, 0), (waits_for, 0), (way_for, [0])):
            self.refused(table, 0, asked, handed)
        self.assertEqual(way_for(table, []), [])


class AnyTableTest(unittest.TestCase):
    def test_as_the_document_says_it(self):
        for seed in range(120):
            chance = random.Random(seed)
            table = table_by_chance(chance, chance.randrange(1, 12))
            changes, settled, deeds = parts_of_table(table)
            known = turns_by_words(changes, settled)
            needed = needed_by_words(changes, deeds)
            standing = table.standing()
            for deed, (decider, parts, wishes) in enumerate(deeds):
                self.assertEqual(turn_of(table, deed), known[decider], seed)
                self.assertEqual(why(table, deed), slow_chain_by_words(changes, settled, decider), seed)
                waited = [other for other in needed[deed] if other not in standing]
                self.assertEqual(waits_for(table, deed), waited, seed)
                self.assertEqual(way_for(table, [deed]), plan_by_words(changes, settled, [decider]), seed)

    def test_the_slow_chain(self):
        for seed in range(60):
            table = table_by_chance(random.Random(200 + seed), 10)
            changes, settled, deeds = parts_of_table(table)
            for deed, (decider, parts, wishes) in enumerate(deeds):
                links = why(table, deed)
                if deed in table.standing():
                    self.assertEqual((links, turn_of(table, deed)), ([], 0))
                    continue
                self.assertEqual(links[0], decider)
                self.assertFalse(set(links) & set(settled))
                panes = [changes[link][0] for link in links]
                turning = [1 for one, other in zip(panes, panes[1:]) if one != other]
                self.assertEqual(len(turning) + 1, turn_of(table, deed))
                for link, following in zip(links, links[1:]):
                    self.assertIn(following, changes[link][3])

    def check_way(self, table, deeds, handed):
        """The way is told, and carving it makes the deeds stand; none of its carvings is for nothing."""
        changes, settled, known = parts_of_table(table)
        way = way_for(table, handed)
        self.assertEqual(way, plan_by_words(changes, settled, [known[deed][0] for deed in deeds]))
        other = copy.deepcopy(table)
        for pane in way:
            waiting = len(other.weaver.bench.waiting())
            other.carve(pane)
            self.assertLess(len(other.weaver.bench.waiting()), waiting)
        self.assertLessEqual(set(deeds), set(other.standing()))
        self.assertGreaterEqual(len(way), max([turn_of(table, deed) for deed in deeds], default=0))

    def test_the_way_for_none_some_and_all(self):
        for seed in range(25):
            table = table_by_chance(random.Random(300 + seed), 5)
            for some in subsets(range(5)):
                self.check_way(table, some, some)
                self.check_way(table, some, some[::-1])
                self.check_way(table, some, told_often(some))

    def test_the_way_for_many(self):
        for seed in range(40):
            chance = random.Random(400 + seed)
            table = table_by_chance(chance, 14)
            some = chance.sample(range(14), chance.randrange(15))
            self.check_way(table, some, some + some[:3])


class TurnsAndCarvingsTest(unittest.TestCase):
    """What the turns promise of the deeds, however the panes are carved."""

    def test_no_row_of_fewer_carvings_makes_a_deed_stand(self):
        for seed in range(40):
            chance = random.Random(500 + seed)
            table = Table(sound_by_chance(chance, chance.randrange(1, 4), 2))
            for deed in range(5):
                ask_by_chance(chance, table, KEYS)
            table.carve(0, chance.choice((0, 1, 2)))
            turns = [turn_of(table, deed) for deed in range(5)]
            panes = len(table.stone())
            for row in itertools.product(range(panes), repeat=min(max(turns), 4)):
                other = copy.deepcopy(table)
                for carvings, pane in enumerate(row):
                    other.carve(pane)
                    for deed in other.standing():
                        self.assertLessEqual(turns[deed], carvings + 1, (seed, row))

    def test_nor_does_one_of_carvings_broken_off(self):
        for seed in range(60):
            chance = random.Random(600 + seed)
            table = table_by_chance(chance, 8)
            turns = [turn_of(table, deed) for deed in range(8)]
            for row in range(4):
                other = copy.deepcopy(table)
                for carvings in range(max(turns)):
                    other.carve(chance.randrange(len(table.stone())), chance.choice((None, None, 1, 2, 3)))
                    for deed in other.standing():
                        self.assertLessEqual(turns[deed], carvings + 1, seed)

    def test_one_carving_lowers_no_turn_by_more_than_one_and_raises_none(self):
        for seed in range(40):
            table = table_by_chance(random.Random(700 + seed), 8)
            for pane in range(len(table.stone())):
                before = [turn_of(table, deed) for deed in range(8)]
                table.carve(pane)
                for deed in range(8):
                    self.assertIn(turn_of(table, deed), (before[deed], before[deed] - 1))

    def check_rounds(self, seed, meanwhile):
        chance = random.Random(seed)
        table = table_by_chance(chance, 8)
        turns = [turn_of(table, deed) for deed in range(8)]
        panes = len(table.stone())
        for rounds in range(1, max(turns) + 1):
            for pane in chance.sample(range(panes), panes):
                for deed in range(meanwhile):
                    ask_by_chance(chance, table, KEYS)
                    table.carve(chance.randrange(panes), chance.choice((0, 1)))
                table.carve(pane)
            for deed in range(8):
                if turns[deed] <= rounds:
                    self.assertIn(deed, table.standing(), (seed, rounds))

    def test_behind_as_many_rounds_a_deed_stands(self):
        for seed in range(80):
            self.check_rounds(800 + seed, 0)

    def test_whatever_else_is_asked_meanwhile(self):
        for seed in range(40):
            self.check_rounds(900 + seed, 1 + seed % 2)

    def test_what_is_asked_later_changes_no_turn(self):
        for seed in range(40):
            chance = random.Random(1000 + seed)
            table = table_by_chance(chance, 6)
            told = [(turn_of(table, deed), why(table, deed), waits_for(table, deed)) for deed in range(6)]
            ways = [way_for(table, [deed]) for deed in range(6)]
            for deed in range(5):
                ask_by_chance(chance, table, KEYS)
            self.assertEqual(
                [(turn_of(table, deed), why(table, deed), waits_for(table, deed)) for deed in range(6)], told,
            )
            self.assertEqual([way_for(table, [deed]) for deed in range(6)], ways)


class OwnPapersTest(unittest.TestCase):
    def tellings(self, table):
        return [
            asked for deed in range(4)
            for asked in (
                lambda deed=deed: why(table, deed), lambda deed=deed: waits_for(table, deed),
                lambda deed=deed: way_for(table, [deed]),
            )
        ] + [lambda: way_for(table, [])]

    def test_nothing_is_changed(self):
        table = some_table()
        before = told_of_table(table)
        deeds = [3, 1, 3]
        for asked in self.tellings(table) + [lambda: turn_of(table, 3), lambda: way_for(table, deeds)]:
            asked()
            self.assertEqual(told_of_table(table), before)
        self.assertEqual(deeds, [3, 1, 3])

    def test_what_is_told_is_the_askers_own(self):
        table = some_table()
        for carving in range(3):
            before = told_of_table(table)
            told = [asked() for asked in self.tellings(table)]
            kept = copy.deepcopy(told)
            for one in told:
                self.assertIs(type(one), list)
                spoil(one)
            self.assertEqual([asked() for asked in self.tellings(table)], kept)
            self.assertEqual(told_of_table(table), before)
            lists = lists_in([asked() for asked in self.tellings(table)])
            self.assertEqual(len(lists), len({id(one) for one in lists}))
            table.carve((1, 0, 1)[carving])

    def test_what_is_told_stays_as_it_was(self):
        table = some_table()
        told = [asked() for asked in self.tellings(table)]
        kept = copy.deepcopy(told)
        for pane in (1, 0, 1, 0):
            table.carve(pane)
            table.put(7, pane)
        for asked in self.tellings(table):
            spoil(asked())
        self.assertEqual(told, kept)

    def test_a_turn_is_a_whole_number(self):
        table = some_table()
        for pane in (1, 0, 1):
            for deed in range(4):
                self.assertIs(type(turn_of(table, deed)), int)
            table.carve(pane)

    def test_the_same_deeds_handed_in_with_another_content(self):
        table = some_table()
        deeds = [0]
        self.assertEqual(way_for(table, deeds), [1, 0])
        deeds[0] = 2
        self.assertEqual(way_for(table, deeds), [0, 1, 0, 1])
        deeds.clear()
        self.assertEqual(way_for(table, deeds), [])


class ManyTest(unittest.TestCase):
    def test_many_deeds(self):
        table = Table(blank_stone(4, 4))
        for deed in range(1000):
            ask(table, deed % 3 > 0, [("put", deed * 7 % 15, deed)], [deed - 1] if deed else None)
        self.assertEqual(waits_for(table, 999), list(range(999)))
        self.assertEqual(rows_by_words(table.stone()), [])
        for pane in way_for(table, [999]):
            table.carve(pane)
        self.assertEqual(table.standing(), list(range(1000)))
        self.assertEqual((turn_of(table, 999), why(table, 999), waits_for(table, 999)), (0, [], []))


if __name__ == "__main__":
    unittest.main()
