import copy
import itertools
import random
import unittest

from ripestone.records import blank_stone, seal_spot
from ripestone.strings import is_sound, rows_found
from ripestone.tidying import Tidier
from ripestone.weaver import Weaver
from tests.ground import (
    PlainWeaver, aged, closed_sets, laid_by_words, record_by_words, rows_by_words, sound_by_chance, spoil,
    string_by_words, strung, told_of_weaver, worth_by_words,
)

GREAT = 10**60 - 1
# The seals of 3 panes with 2 boxes each; age 4 is sealed (in pane 1), the ages 1, 2, 3 and 5 are not.
SEALS = ((0, 2), (1, 2), (2, 2))
# Key 10: not sealed, its was counts; 20: sealed, its now counts; 30: age 0; 40: not sealed, none; 50: sealed, none.
STRUNG = [(2, 10, 5, 6, 1), (4, 20, 5, 7, 4), (1, 30, 5, 8, 0), (5, 40, -1, 9, 2), (3, 50, 5, -1, 4)]


def came_up(stone):
    weaver = Weaver(copy.deepcopy(stone))
    tidier = Tidier(weaver)
    tidier.tidy_string(stone)
    return weaver, tidier


def tidied_by_words(stone):
    """The changes of a coming up, and by each seal's spot those that are held for it."""
    plain = PlainWeaver(stone)
    held = {}
    for box in string_by_words(stone):
        record = record_by_words(stone, box)
        if record[4] != 0:
            worth = worth_by_words(stone, record)
            number = plain.leave(box) if worth == -1 else plain.rewrite(box, -1, worth, 0)
            held.setdefault((record[4] % len(stone), len(stone[0]) - 1), []).append(number)
    return plain, held


class TidyTest(unittest.TestCase):
    def test_with_a_worth(self):
        for worth in (0, 1, 7, GREAT):
            stone = aged(3, 2, STRUNG, (0, 4, 0))
            weaver = Weaver(stone)
            self.assertEqual(Tidier(weaver).tidy(4, worth), 0)
            self.assertEqual(weaver.bench.changes(), [(1, 1, (20, 1, -1, worth, 0), ())])
            self.assertEqual(weaver.order(), [2, 4, 1, 5, 3])
            self.assertEqual(weaver.free(), [])

    def test_with_none(self):
        weaver = Weaver(aged(3, 2, STRUNG, (0, 4, 0)))
        self.assertEqual(Tidier(weaver).tidy(4, -1), 0)
        self.assertEqual(weaver.bench.changes(), [(2, 0, (10, 1, 5, 6, 1), ())])
        self.assertEqual(weaver.order(), [2, 1, 5, 3])
        self.assertEqual(weaver.free(), [4])
        self.assertEqual(weaver.going_out(4), 0)

    def test_needs(self):
        for worth, needed in ((7, (0, 2, 3)), (-1, (0, 1, 2, 3))):
            weaver = Weaver(aged(3, 2, STRUNG, (0, 4, 0)))
            weaver.bench.put(0, 2, (6,))
            weaver.rewrite(2, -1, 3, 0)
            weaver.rewrite(4, -1, 3, 0)
            weaver.bench.put(1, 2, (7,))
            self.assertEqual(Tidier(weaver).tidy(4, worth, [3, 0, 3]), 4)
            self.assertEqual(weaver.bench.change(4)[3], needed)


class ComingUpTest(unittest.TestCase):
    def test_by_hand(self):
        stone = aged(3, 2, STRUNG, (0, 4, 0))
        self.assertTrue(is_sound(stone))
        weaver, tidier = came_up(stone)
        self.assertEqual(weaver.bench.changes(), [
            (2, 0, (10, 4, -1, 5, 0), ()),
            (1, 1, (20, 1, -1, 7, 0), ()),
            (1, 0, (30, 3, 5, 8, 0), ()),
            (1, 0, (30, 0, 5, 8, 0), (2,)),
        ])
        self.assertEqual(weaver.order(), [2, 4, 1])
        self.assertEqual(weaver.free(), [3, 5])
        self.assertEqual([tidier.held_for(seal) for seal in SEALS], [[], [0, 1, 3], [2]])

    def test_sealed_and_not_with_a_worth_and_with_none(self):
        for age, seals, told in (
            (1, (0, 1, 0), 7), (1, (0, 4, 0), 5), (2, (0, 0, 2), 7), (2, (2, 2, 0), 5), (3, (3, 0, 0), 7),
        ):
            stone = aged(3, 1, [(2, 10, 5, 7, age)], seals)
            weaver, tidier = came_up(stone)
            self.assertEqual(weaver.bench.changes(), [(2, 0, (10, 0, -1, told, 0), ())])
        for was, now, age, seals in ((-1, 7, 1, (0, 0, 0)), (5, -1, 1, (0, 1, 0)), (-1, -1, 1, (0, 1, 0))):
            stone = aged(3, 1, [(2, 10, was, now, age)], seals)
            weaver, tidier = came_up(stone)
            self.assertEqual(weaver.bench.changes(), [(0, 0, (0, 0, -1, 0, 0), ())])
            self.assertEqual((weaver.order(), weaver.free()), ([], [1, 2]))
            self.assertEqual(tidier.held_for((1, 1)), [0])

    def test_a_worth_of_0_is_one(self):
        for seals in ((0, 0), (0, 3)):
            weaver, tidier = came_up(aged(2, 2, [(3, 10, 0, 0, 3)], seals))
            self.assertEqual(weaver.bench.changes(), [(1, 1, (10, 0, -1, 0, 0), ())])

    def test_nothing_is_asked_where_no_box_of_the_string_has_an_age(self):
        stone = strung(2, 3, [4, 1, 5], [10, 20, 30])
        stone[0][0] = (0, 4, 5, 6, 7)
        stone[0][1] = (15, 4, 5, 6, 7)
        for one in (stone, blank_stone(3, 2), blank_stone(1, 1)):
            weaver, tidier = came_up(one)
            self.assertEqual(weaver.bench.changes(), [])
            for pane in range(len(one)):
                self.assertEqual(tidier.held_for((pane, len(one[0]) - 1)), [])

    def test_held_for_the_seal_that_the_boxes_age_had(self):
        boxes = [(box, box, 1, 2, age) for box, age in ((1, 5), (2, 8), (3, 4), (4, 1), (5, 3))]
        weaver, tidier = came_up(aged(3, 2, boxes, (0, 0, 0)))
        self.assertEqual([tidier.held_for(seal) for seal in SEALS], [[4], [2, 3], [0, 1]])
        for age, held in ((8, [0, 1]), (1, [2, 3]), (30, [4])):
            self.assertEqual(tidier.held_for(seal_spot(weaver.bench.stone(), age)), held)

    def test_all_leave(self):
        weaver, tidier = came_up(aged(2, 2, [(3, 1, -1, 4, 1), (1, 2, -1, 4, 2), (2, 3, 4, -1, 4)], (4, 0)))
        self.assertEqual(weaver.bench.changes(), [
            (0, 0, (0, 1, -1, 0, 0), ()), (0, 0, (0, 2, -1, 0, 0), (0,)), (0, 0, (0, 0, -1, 0, 0), (1,)),
        ])
        self.assertEqual([tidier.held_for((0, 2)), tidier.held_for((1, 2))], [[1, 2], [0]])
        self.assertEqual(weaver.free(), [1, 2, 3])

    def test_as_the_document_says_it(self):
        for seed in range(150):
            chance = random.Random(seed)
            stone = sound_by_chance(chance, chance.randrange(1, 5), chance.randrange(1, 4))
            weaver, tidier = came_up(stone)
            plain, held = tidied_by_words(stone)
            self.assertEqual(told_of_weaver(weaver), plain.told(), seed)
            for pane in range(len(stone)):
                seal = (pane, len(stone[0]) - 1)
                self.assertEqual(tidier.held_for(seal), held.get(seal, []), seed)
            records = [weaver.record_of(box) for box in weaver.order()]
            self.assertEqual([record[4] for record in records], [0] * len(records))
            self.assertEqual([(record[0], record[3]) for record in records], rows_by_words(stone))

    def test_it_changes_nothing_that_is_found(self):
        for seed in range(60):
            chance = random.Random(1000 + seed)
            stone = sound_by_chance(chance, 3, 2)
            weaver, tidier = came_up(stone)
            changes = weaver.bench.changes()
            for some in closed_sets([change[3] for change in changes]):
                there = laid_by_words(stone, changes, some)
                self.assertTrue(is_sound(there), (seed, some))
                self.assertEqual(rows_found(there), rows_by_words(stone), (seed, some))


class BehindAPactTest(unittest.TestCase):
    """Pacts are asked of the weaver and the bench by hand, as a table asks them."""

    def setUp(self):
        self.stone = strung(2, 3, [4, 1], [10, 20])
        self.weaver = Weaver(self.stone)
        self.tidier = Tidier(self.weaver)

    def pact(self, age, parts):
        """Such (key, worth) with -1 for a take; the change that seals."""
        changed = []
        boxes = []
        for key, worth in parts:
            box = self.weaver.box_of(key)
            if box is None:
                box, number = self.weaver.enter(key, -1, worth, age)
            else:
                number = self.weaver.rewrite(box, self.weaver.record_of(box)[3], worth, age)
            changed.append(number)
            boxes.append((box, worth))
        pane, place = seal_spot(self.stone, age)
        sealing = self.weaver.bench.put(pane, place, (age,), changed + self.tidier.held_for((pane, place)))
        self.tidier.tidy_behind((pane, place), sealing, boxes)
        return sealing

    def test_puts_and_takes(self):
        self.assertEqual(self.pact(1, [(20, -1), (15, 3), (10, 9)]), 4)
        self.assertEqual(self.weaver.bench.changes(), [
            (1, 0, (20, 0, 1, -1, 1), ()),
            (0, 1, (15, 1, -1, 3, 1), ()),
            (0, 2, (10, 2, -1, 4, 0), (1,)),
            (0, 2, (10, 2, 4, 9, 1), (2,)),
            (1, 3, (1,), (0, 2, 3)),
            # Tidied part by part: 20 leaves, behind box 2, which came in with 2; 15 and 10 are rewritten.
            (0, 1, (15, 0, -1, 3, 1), (0, 1, 2, 4)),
            (0, 1, (15, 0, -1, 3, 0), (2, 4, 5)),
            (0, 2, (10, 2, -1, 9, 0), (3, 4)),
        ])
        self.assertEqual(self.weaver.order(), [4, 2])
        self.assertEqual(self.weaver.free(), [1, 3, 5])
        self.assertEqual(self.tidier.held_for((1, 3)), [5, 6, 7])
        self.assertEqual(self.tidier.held_for((0, 3)), [])

    def test_part_by_part(self):
        for parts, tidied in (
            ([(10, 9), (20, -1)], [(0, 2, (10, 1, -1, 9, 0), (0, 2)), (0, 2, (10, 0, -1, 9, 0), (1, 2, 3))]),
            ([(20, -1), (10, 9)], [(0, 2, (10, 0, 4, 9, 1), (0, 1, 2)), (0, 2, (10, 0, -1, 9, 0), (2, 3))]),
        ):
            self.setUp()
            self.assertEqual(self.pact(1, parts), 2)
            self.assertEqual(self.weaver.bench.changes()[3:], tidied)
            self.assertEqual(self.tidier.held_for((1, 3)), [3, 4])

    def test_no_parts(self):
        self.assertEqual(self.pact(1, []), 0)
        self.assertEqual(self.weaver.bench.changes(), [(1, 3, (1,), ())])
        self.assertEqual(self.tidier.held_for((1, 3)), [])

    def test_held_in_the_place_of_what_was_held(self):
        self.pact(1, [(10, 7)])
        self.assertEqual(self.tidier.held_for((1, 3)), [2])
        self.pact(2, [(20, 7)])
        self.assertEqual([self.tidier.held_for((0, 3)), self.tidier.held_for((1, 3))], [[5], [2]])
        self.assertEqual(self.pact(3, [(20, 8)]), 7)
        self.assertEqual(self.weaver.bench.change(7), (1, 3, (3,), (1, 2, 6)))
        self.assertEqual([self.tidier.held_for((0, 3)), self.tidier.held_for((1, 3))], [[5], [8]])
        self.assertEqual(self.pact(5, []), 9)
        self.assertEqual(self.weaver.bench.change(9), (1, 3, (5,), (7, 8)))
        self.assertEqual([self.tidier.held_for((0, 3)), self.tidier.held_for((1, 3))], [[5], []])
        self.pact(7, [])
        self.assertEqual(self.weaver.bench.change(10), (1, 3, (7,), (9,)))

    def test_what_a_coming_up_held_is_replaced_too(self):
        self.stone = aged(2, 2, [(3, 10, 5, 6, 3), (1, 20, 5, 6, 2), (2, 30, 5, 6, 5)], (2, 1))
        self.weaver, self.tidier = came_up(self.stone)
        self.assertEqual([self.tidier.held_for((0, 2)), self.tidier.held_for((1, 2))], [[1], [0, 2]])
        self.assertEqual(self.pact(7, [(20, -1)]), 4)
        self.assertEqual(self.weaver.bench.change(4), (1, 2, (7,), (0, 2, 3)))
        self.assertEqual([self.tidier.held_for((0, 2)), self.tidier.held_for((1, 2))], [[1], [5]])

    def check_all_sets(self, pacts):
        """What is found is what the pacts that are sealed make of the first rows."""
        sealings = [self.pact(age, parts) for age, parts in pacts]
        changes = self.weaver.bench.changes()
        for some in closed_sets([change[3] for change in changes]):
            rows = dict(rows_by_words(self.stone))
            for sealing, (age, parts) in zip(sealings, pacts):
                if sealing in some:
                    rows.update(parts)
            there = laid_by_words(self.stone, changes, some)
            self.assertTrue(is_sound(there), (pacts, some))
            self.assertEqual(rows_found(there), sorted(row for row in rows.items() if row[1] != -1), (pacts, some))

    def test_wholly_or_not_at_all(self):
        parts = ([], [(10, 7)], [(10, -1), (15, 6)], [(20, -1), (5, 6), (10, 8)])
        for first, second in itertools.product(parts, repeat=2):
            self.setUp()
            there = [10, 20] if not first else [key for key in (10, 20) if (key, -1) not in first]
            there = there + [key for key, worth in first if worth != -1]
            self.check_all_sets([(1, first), (3, [part for part in second if part[1] != -1 or part[0] in there])])

    def test_the_same_seal_again_and_again(self):
        for age in (2, 3):
            self.setUp()
            self.check_all_sets([(1, [(10, 7)]), (age, [(10, 8), (30, 2)]), (5, [(10, -1)])])

    def test_behind_a_coming_up(self):
        for seals in ((0, 0), (2, 3), (4, 5)):
            self.stone = aged(2, 2, [(3, 10, 5, 6, 3), (1, 20, 5, 7, 2), (2, 30, 5, 8, 5)], seals)
            self.weaver, self.tidier = came_up(self.stone)
            self.check_all_sets([(7, [(20, 1)]), (8, [(10, -1)]), (9, [(30, 2)])])

    def test_by_chance(self):
        for seed in range(60):
            chance = random.Random(2000 + seed)
            self.stone = sound_by_chance(chance, chance.randrange(1, 4), 2)
            self.weaver, self.tidier = came_up(self.stone)
            there = [key for key, worth in rows_by_words(self.stone)]
            free = len(self.weaver.free())
            pacts = []
            for age in chance.sample(range(6, 12), 3):
                some = chance.sample(there, chance.randrange(len(there) + 1))
                parts = [(key, chance.choice((-1, 7, 8))) for key in some]
                there = [key for key in there if (key, -1) not in parts]
                if free and chance.randrange(2):
                    parts.append((100 + age, 3))
                    there.append(100 + age)
                    free = free - 1
                pacts.append((age, parts))
            self.check_all_sets(sorted(pacts))


class OwnTidierTest(unittest.TestCase):
    def test_the_stone_handed_in(self):
        stone = aged(3, 2, STRUNG, (0, 4, 0))
        kept = copy.deepcopy(stone)
        weaver, tidier = came_up(stone)
        self.assertEqual(stone, kept)
        before = told_of_weaver(weaver)
        spoil(stone)
        self.assertEqual(told_of_weaver(weaver), before)
        self.assertEqual([tidier.held_for(seal) for seal in SEALS], [[], [0, 1, 3], [2]])

    def test_the_boxes_handed_in(self):
        weaver = Weaver(aged(3, 2, STRUNG, (0, 4, 0)))
        tidier = Tidier(weaver)
        weaver.bench.put(1, 2, (7,))
        boxes = [(4, 3), (5, -1)]
        tidier.tidy_behind((1, 2), 0, boxes)
        self.assertEqual(boxes, [(4, 3), (5, -1)])
        boxes.clear()
        self.assertEqual(tidier.held_for((1, 2)), [1, 2])

    def test_what_is_held_is_told_in_a_new_list(self):
        weaver, tidier = came_up(aged(3, 2, STRUNG, (0, 4, 0)))
        for seal in SEALS:
            told = tidier.held_for(seal)
            kept = list(told)
            spoil(told)
            self.assertEqual(tidier.held_for(seal), kept)
        told = tidier.held_for((1, 2))
        weaver.bench.put(1, 2, (7,))
        tidier.tidy_behind((1, 2), 4, [(2, 5)])
        self.assertEqual(told, [0, 1, 3])

    def test_two_tidiers_know_nothing_of_one_another(self):
        stone = aged(3, 2, STRUNG, (0, 4, 0))
        one, first = came_up(stone)
        second = Tidier(Weaver(stone))
        self.assertEqual([second.held_for(seal) for seal in SEALS], [[], [], []])
        self.assertEqual([first.held_for(seal) for seal in SEALS], [[], [0, 1, 3], [2]])


if __name__ == "__main__":
    unittest.main()
