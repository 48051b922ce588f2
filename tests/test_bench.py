import itertools
import random
import unittest

from ripestone.bench import Bench
from ripestone.errors import NoChange, NoPlace
from tests.ground import closed_by_words, laid_by_words, ripe_by_words, subsets, turn_by_words

STONE = [[(1,), (2,), (3,)], [(4,), (5,)], [(6,)]]
MANY = 5000


def three_panes():
    return Bench([list(pane) for pane in STONE])


def woven():
    """Pane 0: 0, 1, 3 (1 and 3 of one place); pane 1: 2, which 3 needs, and 4, which waits for 3; pane 2: 5."""
    bench = three_panes()
    bench.put(0, 0, (10,))
    bench.put(0, 1, (11,), [0])
    bench.put(1, 0, (12,), [0])
    bench.put(0, 1, (13,), [2])
    bench.put(1, 1, (14,), [3])
    bench.put(2, 0, (15,))
    return bench


def told_of(bench):
    seen = [[bench.seen(pane, place) for place in range(len(row))] for pane, row in enumerate(bench.stone())]
    return (bench.stone(), bench.changes(), bench.settled(), bench.waiting(), seen)


class PutTest(unittest.TestCase):
    def test_numbers_from_0_on(self):
        bench = three_panes()
        told = [bench.put(pane, 0, (9,)) for pane in (2, 0, 0, 1, 2)]
        self.assertEqual(told, [0, 1, 2, 3, 4])

    def test_numbers_go_on_behind_carvings(self):
        bench = woven()
        bench.carve(0)
        self.assertEqual(bench.put(0, 0, (16,)), 6)
        bench.carve(1, 1)
        self.assertEqual(bench.put(1, 0, (17,)), 7)

    def test_a_change_is_told_as_it_was_asked_for(self):
        bench = three_panes()
        bench.put(1, 1, (7, -3, 0))
        bench.put(0, 2, (), [0])
        self.assertEqual(bench.change(0), (1, 1, (7, -3, 0), ()))
        self.assertEqual(bench.change(1), (0, 2, (), (0,)))
        self.assertEqual(bench.changes(), [(1, 1, (7, -3, 0), ()), (0, 2, (), (0,))])

    def test_needs_left_out_none_and_empty(self):
        bench = three_panes()
        bench.put(0, 0, (1,))
        bench.put(0, 1, (1,))
        bench.put(0, 2, (1,), None)
        bench.put(1, 0, (1,), [])
        bench.put(1, 1, (1,), needs=None)
        bench.put(2, 0, (1,), needs=[3])
        self.assertEqual([change[3] for change in bench.changes()], [(), (), (), (), (), (3,)])

    def test_needs_in_any_order_and_several_times(self):
        bench = three_panes()
        for pane, place in ((0, 0), (0, 1), (0, 2), (1, 0)):
            bench.put(pane, place, (1,))
        bench.put(1, 1, (1,), [3, 0, 2, 3, 0, 0])
        self.assertEqual(bench.change(4)[3], (0, 2, 3))
        bench.put(2, 0, (1,), [4, 4])
        self.assertEqual(bench.change(5)[3], (4,))

    def test_needs_are_weighed_as_numbers(self):
        bench = three_panes()
        for number in range(12):
            bench.put(0, 0, (number,))
        bench.put(1, 0, (1,), [11, 2, 10, 9])
        self.assertEqual(bench.change(12)[3], (2, 9, 10, 11))

    def test_the_last_one_of_the_same_place_is_needed(self):
        bench = three_panes()
        bench.put(0, 0, (1,))
        bench.put(0, 1, (2,))
        bench.put(0, 0, (3,))
        bench.put(1, 0, (4,))
        bench.put(0, 0, (5,))
        bench.put(0, 1, (6,))
        bench.put(1, 0, (7,))
        self.assertEqual([change[3] for change in bench.changes()], [(), (), (0,), (), (2,), (1,), (3,)])

    def test_the_last_one_of_the_same_place_among_those_handed_in(self):
        bench = three_panes()
        bench.put(0, 0, (1,))
        bench.put(1, 0, (2,))
        bench.put(0, 0, (3,), [1])
        self.assertEqual(bench.change(2)[3], (0, 1))
        bench.put(0, 0, (4,), [2, 0])
        self.assertEqual(bench.change(3)[3], (0, 2))
        bench.put(2, 0, (5,))
        bench.put(0, 0, (6,), [4, 1])
        self.assertEqual(bench.change(5)[3], (1, 3, 4))

    def test_the_last_one_of_the_same_place_though_it_is_settled(self):
        bench = three_panes()
        bench.put(0, 0, (1,))
        bench.carve(0)
        bench.put(0, 0, (2,))
        self.assertEqual(bench.change(1)[3], (0,))
        bench.put(0, 1, (3,), [0])
        self.assertEqual(bench.change(2)[3], (0,))

    def test_a_thing_that_lies_there_already_is_a_change_too(self):
        bench = three_panes()
        self.assertEqual(bench.put(2, 0, (6,)), 0)
        self.assertEqual(bench.put(2, 0, (6,)), 1)
        self.assertEqual(bench.waiting(), [0, 1])
        self.assertEqual(bench.carve(2), [0, 1])

    def test_needs_never_change(self):
        bench = woven()
        before = bench.changes()
        self.assertEqual([change[3] for change in before], [(), (0,), (0,), (1, 2), (3,), ()])
        for pane in (0, 1, 0, 1, 2):
            bench.carve(pane)
            self.assertEqual(bench.changes(), before)
        bench.put(0, 1, (9,))
        self.assertEqual(bench.changes()[:6], before)
        self.assertEqual([bench.change(number) for number in range(6)], before)

    def test_each_pane_and_place_and_somewhat_beyond(self):
        bench = Bench([[(0,)] * 11 for pane in range(10)])
        spots = [(pane, place) for pane in range(10) for place in range(11)]
        for number, (pane, place) in enumerate(spots):
            self.assertEqual(bench.put(pane, place, (pane, place)), number)
        for pane in range(10):
            self.assertEqual(bench.carve(pane), list(range(11 * pane, 11 * pane + 11)))
        self.assertEqual(bench.stone(), [[(pane, place) for place in range(11)] for pane in range(10)])

    def test_the_least_stone(self):
        bench = Bench([[(5,)]])
        self.assertEqual(bench.put(0, 0, (6,)), 0)
        self.assertEqual(bench.stone(), [[(5,)]])
        self.assertEqual(bench.carve(0), [0])
        self.assertEqual(bench.stone(), [[(6,)]])

    def test_great_numbers(self):
        bench = three_panes()
        bench.put(2, 0, (10**59, -(10**59)))
        self.assertEqual(bench.seen(2, 0), (10**59, -(10**59)))


class RefusedTest(unittest.TestCase):
    NOT_THERE = ((3, 0), (-1, 0), (-3, 0), (0, 3), (0, -1), (0, -3), (1, 2), (2, 1), (2, -1), (9, 9), (10**59, 0))
    NO_CHANGES = ([6], [-1], [0, -1], [7, 0], [0, 6, 0], [-6], [10**59], [0, 1, 2, 3, 4, 5, 6])

    def check_refused(self, bench, error, call):
        before = told_of(bench)
        with self.assertRaises(error) as caught:
            call()
        self.assertIs(type(caught.exception), error)
        self.assertEqual(told_of(bench), before)

    def test_no_such_pane_or_place(self):
        bench = woven()
        for pane, place in self.NOT_THERE:
            with self.subTest(pane=pane, place=place):
                self.check_refused(bench, NoPlace, lambda: bench.put(pane, place, (1,)))
                self.check_refused(bench, NoPlace, lambda: bench.put(pane, place, (1,), [0]))
                self.check_refused(bench, NoPlace, lambda: bench.seen(pane, place))

    def test_no_such_change(self):
        bench = woven()
        for needs in self.NO_CHANGES:
            with self.subTest(needs=needs):
                self.check_refused(bench, NoChange, lambda: bench.put(0, 0, (1,), needs))

    def test_the_number_that_the_change_itself_would_have(self):
        bench = three_panes()
        self.check_refused(bench, NoChange, lambda: bench.put(0, 0, (1,), [0]))
        bench.put(0, 0, (1,))
        self.check_refused(bench, NoChange, lambda: bench.put(0, 0, (1,), [0, 1]))
        self.assertEqual(bench.put(0, 0, (1,), [0]), 1)

    def test_no_place_goes_first(self):
        bench = woven()
        for pane, place in self.NOT_THERE:
            for needs in self.NO_CHANGES:
                self.check_refused(bench, NoPlace, lambda: bench.put(pane, place, (1,), needs))

    def test_what_is_refused_changes_nothing_later(self):
        bench = woven()
        for needs in self.NO_CHANGES:
            for pane, place in ((0, 0), (0, 2), (2, 0), (3, 0), (-1, 0), (0, -1)):
                with self.assertRaises((NoPlace, NoChange)):
                    bench.put(pane, place, (99,), needs)
        self.assertEqual(bench.put(0, 0, (16,)), 6)
        self.assertEqual(bench.put(0, 2, (17,)), 7)
        self.assertEqual(bench.put(2, 0, (18,)), 8)
        self.assertEqual(bench.changes()[6:], [(0, 0, (16,), (0,)), (0, 2, (17,), ()), (2, 0, (18,), (5,))])
        self.assertEqual(bench.carve(0), [0, 1, 6, 7])
        self.assertEqual(bench.stone(), [[(16,), (11,), (17,)], [(4,), (5,)], [(6,)]])

    def test_no_such_change_told(self):
        bench = woven()
        for number in (6, 7, -1, -6, 10**59):
            with self.subTest(number=number):
                self.check_refused(bench, NoChange, lambda: bench.change(number))
        bench = three_panes()
        self.check_refused(bench, NoChange, lambda: bench.change(0))

    def test_no_such_pane_to_carve(self):
        bench = woven()
        for pane in (3, 4, -1, -3, 10**59):
            for most in (None, 0, 1):
                with self.subTest(pane=pane, most=most):
                    self.check_refused(bench, NoPlace, lambda: bench.carve(pane, most))


class SeenTest(unittest.TestCase):
    def test_what_lay_there_at_first(self):
        bench = three_panes()
        seen = [[bench.seen(pane, place) for place in range(len(STONE[pane]))] for pane in range(3)]
        self.assertEqual(seen, STONE)

    def test_the_last_one_asked_for_there(self):
        bench = three_panes()
        bench.put(0, 1, (7,))
        self.assertEqual(bench.seen(0, 1), (7,))
        bench.put(0, 2, (8,))
        bench.put(1, 1, (9,))
        self.assertEqual(bench.seen(0, 1), (7,))
        bench.put(0, 1, (3,))
        self.assertEqual(bench.seen(0, 1), (3,))
        self.assertEqual(bench.seen(0, 0), (1,))
        self.assertEqual(bench.seen(1, 0), (4,))

    def test_carvings_change_nothing_seen(self):
        bench = woven()
        seen = told_of(bench)[4]
        self.assertEqual(seen, [[(10,), (13,), (3,)], [(12,), (14,)], [(15,)]])
        for pane, most in ((0, 1), (0, None), (1, None), (2, 0), (0, None), (1, None), (2, None)):
            bench.carve(pane, most)
            self.assertEqual(told_of(bench)[4], seen)
        self.assertEqual(bench.stone(), seen)


class CarveTest(unittest.TestCase):
    def test_nothing_is_settled_at_first(self):
        bench = woven()
        self.assertEqual(bench.stone(), STONE)
        self.assertEqual(bench.settled(), [])
        self.assertEqual(bench.waiting(), [0, 1, 2, 3, 4, 5])
        self.assertEqual(three_panes().settled(), [])
        self.assertEqual(three_panes().waiting(), [])
        self.assertEqual(three_panes().changes(), [])

    def test_nothing_to_carve(self):
        bench = three_panes()
        for pane in range(3):
            self.assertEqual(bench.carve(pane), [])
        self.assertEqual(bench.stone(), STONE)
        self.assertEqual(woven().carve(1), [])

    def test_whole_carvings(self):
        bench = woven()
        self.assertEqual(bench.carve(0), [0, 1])
        self.assertEqual(bench.stone(), [[(10,), (11,), (3,)], [(4,), (5,)], [(6,)]])
        self.assertEqual(bench.carve(0), [])
        self.assertEqual(bench.carve(1), [2])
        self.assertEqual(bench.stone(), [[(10,), (11,), (3,)], [(12,), (5,)], [(6,)]])
        self.assertEqual(bench.carve(1), [])
        self.assertEqual(bench.carve(0), [3])
        self.assertEqual(bench.settled(), [0, 1, 2, 3])
        self.assertEqual(bench.waiting(), [4, 5])
        self.assertEqual(bench.carve(2), [5])
        self.assertEqual(bench.settled(), [0, 1, 2, 3, 5])
        self.assertEqual(bench.waiting(), [4])
        self.assertEqual(bench.carve(1), [4])
        self.assertEqual(bench.stone(), [[(10,), (13,), (3,)], [(12,), (14,)], [(15,)]])
        self.assertEqual(bench.settled(), [0, 1, 2, 3, 4, 5])
        self.assertEqual(bench.waiting(), [])

    def test_broken_off_behind_no_stroke(self):
        bench = woven()
        before = told_of(bench)
        for pane in range(3):
            self.assertEqual(bench.carve(pane, 0), [])
            self.assertEqual(told_of(bench), before)

    def test_broken_off_behind_some_strokes(self):
        bench = woven()
        self.assertEqual(bench.carve(0, 1), [0])
        self.assertEqual(bench.stone(), [[(10,), (2,), (3,)], [(4,), (5,)], [(6,)]])
        self.assertEqual(bench.settled(), [0])
        self.assertEqual(bench.waiting(), [1, 2, 3, 4, 5])
        self.assertEqual(bench.carve(1), [2])
        self.assertEqual(bench.carve(0, 1), [1])
        self.assertEqual(bench.stone(), [[(10,), (11,), (3,)], [(12,), (5,)], [(6,)]])
        self.assertEqual(bench.carve(0, most=1), [3])
        self.assertEqual(bench.carve(0, 1), [])

    def test_most_as_many_as_there_are_and_more(self):
        for most in (2, 3, 100, 10**59):
            bench = woven()
            self.assertEqual(bench.carve(0, most), [0, 1])
        self.assertEqual(woven().carve(0, None), [0, 1])

    def test_each_is_a_stroke_of_its_own(self):
        for most in range(5):
            bench = three_panes()
            for thing in (10, 11, 12, 13):
                bench.put(1, 1, (thing,))
            self.assertEqual(bench.carve(1, most), list(range(most)))
            self.assertEqual(bench.stone()[1], [(4,), (9 + most,) if most else (5,)])
            self.assertEqual(bench.waiting(), list(range(most, 4)))

    def test_one_of_a_place_that_waits_holds_up_those_behind_it(self):
        bench = three_panes()
        bench.put(1, 0, (10,))
        bench.put(0, 0, (11,), [0])
        bench.put(0, 0, (12,))
        bench.put(0, 1, (13,))
        bench.put(0, 2, (14,), [2])
        self.assertEqual(bench.carve(0), [3])
        self.assertEqual(bench.stone()[0], [(1,), (13,), (3,)])
        bench.carve(1)
        self.assertEqual(bench.carve(0), [1, 2, 4])
        self.assertEqual(bench.stone()[0], [(12,), (13,), (14,)])

    def test_what_is_asked_for_behind_a_carving_broken_off(self):
        bench = three_panes()
        bench.put(0, 0, (10,))
        bench.put(0, 1, (11,))
        bench.carve(0, 1)
        bench.put(0, 0, (12,))
        bench.put(0, 2, (13,), [1])
        self.assertEqual(bench.carve(0, 2), [1, 2])
        self.assertEqual(bench.stone()[0], [(12,), (11,), (3,)])
        self.assertEqual(bench.carve(0), [3])

    def test_broken_off_and_gone_on_with(self):
        for cuts in itertools.product(range(4), repeat=3):
            bench = three_panes()
            whole = three_panes()
            for one in (bench, whole):
                for place in (0, 1, 0, 2, 1, 0):
                    one.put(0, place, (place, len(one.changes())))
            told = []
            for most in cuts:
                told = told + bench.carve(0, most)
            told = told + bench.carve(0)
            self.assertEqual(told, whole.carve(0))
            self.assertEqual(told_of(bench), told_of(whole))

    def test_many(self):
        bench = Bench([[(0,)], [(0,)]])
        for number in range(MANY):
            bench.put(number % 2, 0, (number,), [number - 1] if number else None)
        for number in range(20):
            self.assertEqual(bench.carve(number % 2), [number])
        self.assertEqual(bench.stone(), [[(18,)], [(19,)]])
        self.assertEqual(bench.waiting(), list(range(20, MANY)))
        bench = Bench([[(0,)]])
        for number in range(MANY):
            bench.put(0, 0, (number,))
        self.assertEqual(bench.carve(0, MANY - 1), list(range(MANY - 1)))
        self.assertEqual(bench.carve(0), [MANY - 1])
        self.assertEqual(bench.stone(), [[(MANY - 1,)]])


class PlainBench:
    """The document's words, as slowly as they stand there."""

    def __init__(self, stone):
        self.first = stone
        self.changes = []
        self.settled = []

    def put(self, pane, place, thing, needs):
        there = [number for number, change in enumerate(self.changes) if change[:2] == (pane, place)]
        self.changes.append((pane, place, thing, tuple(sorted(set(list(needs) + there[-1:])))))

    def carve(self, pane, most):
        found = ripe_by_words(self.changes, self.settled, pane)
        found = found if most is None else found[:most]
        self.settled = sorted(self.settled + found)
        return found

    def told(self):
        whole = list(range(len(self.changes)))
        waiting = [number for number in whole if number not in self.settled]
        stone = laid_by_words(self.first, self.changes, self.settled)
        return (stone, self.changes, self.settled, waiting, laid_by_words(self.first, self.changes, whole))


def asked_by_chance(chance, stone, many):
    """What is handed to put where so many changes are there already."""
    pane = chance.randrange(len(stone))
    place = chance.randrange(len(stone[pane]))
    needs = [chance.randrange(many) for count in range(chance.randrange(3))] if many else []
    return (pane, place, (chance.randrange(100), many), needs)


def ask_by_chance(chance, bench, stone):
    bench.put(*asked_by_chance(chance, stone, len(bench.changes())))


class AnyRowTest(unittest.TestCase):
    def test_as_the_document_says_it(self):
        for seed in range(120):
            chance = random.Random(seed)
            stone = [[(-1,)] * chance.randrange(1, 4) for pane in range(chance.randrange(1, 4))]
            bench = Bench(stone)
            plain = PlainBench(stone)
            for step in range(25):
                if chance.randrange(2):
                    asked = asked_by_chance(chance, stone, len(plain.changes))
                    self.assertEqual(bench.put(*asked), len(plain.changes), (seed, step))
                    plain.put(*asked)
                else:
                    pane = chance.randrange(len(stone))
                    most = chance.choice((None, None, 0, 1, 2, 3))
                    self.assertEqual(bench.carve(pane, most), plain.carve(pane, most), (seed, step))
                self.assertEqual(told_of(bench), plain.told(), (seed, step))

    def test_the_settled_ones_are_closed_and_stay_settled(self):
        for seed in range(120):
            chance = random.Random(1000 + seed)
            stone = [[(-1,)] * 2 for pane in range(3)]
            bench = Bench(stone)
            for step in range(30):
                before = bench.settled()
                if chance.randrange(2):
                    ask_by_chance(chance, bench, stone)
                    told = []
                else:
                    told = bench.carve(chance.randrange(3), chance.choice((None, 0, 1, 2)))
                after = bench.settled()
                self.assertEqual(after, sorted(before + told))
                self.assertEqual(sorted(after + bench.waiting()), list(range(len(bench.changes()))))
                self.assertTrue(closed_by_words([change[3] for change in bench.changes()], after))
                self.assertEqual(bench.stone(), laid_by_words(stone, bench.changes(), after))

    def test_no_row_of_fewer_carvings_than_its_turn_settles_a_change(self):
        stone = [[(-1,)] * 2 for pane in range(3)]
        for seed in range(40):
            chance = random.Random(2000 + seed)
            bench = Bench(stone)
            for number in range(7):
                ask_by_chance(chance, bench, stone)
            changes = bench.changes()
            known = [turn_by_words(changes, [], number) for number in range(7)]
            for row in itertools.product(range(3), repeat=3):
                bench = Bench(stone)
                for pane, place, thing, needs in changes:
                    bench.put(pane, place, thing, list(needs))
                for carvings, pane in enumerate(row):
                    for number in bench.carve(pane):
                        self.assertLessEqual(known[number], carvings + 1, (changes, row))

    def test_behind_as_many_rounds_as_its_turn_a_change_is_settled(self):
        stone = [[(-1,)] * 2 for pane in range(3)]
        for seed in range(60):
            chance = random.Random(3000 + seed)
            bench = Bench(stone)
            for number in range(8):
                ask_by_chance(chance, bench, stone)
            bench.carve(chance.randrange(3), chance.choice((0, 1, None)))
            held = bench.settled()
            known = [turn_by_words(bench.changes(), held, number) for number in range(8)]
            for rounds in range(1, max(known) + 1):
                for pane in chance.sample(range(3), 3):
                    ask_by_chance(chance, bench, stone)
                    bench.carve(chance.randrange(3), 1)
                    bench.carve(pane)
                for number in range(8):
                    if known[number] <= rounds:
                        self.assertIn(number, bench.settled(), (seed, rounds))


class AllSmallBenchesTest(unittest.TestCase):
    def test_all_rows_of_carvings(self):
        stone = [[(-1,), (-2,)], [(-3,)]]
        spots = ((0, 0), (0, 1), (1, 0))
        carvings = ((0, None), (1, None), (0, 1))
        for chosen in itertools.product(spots, repeat=3):
            for second, third in itertools.product(subsets([0]), subsets([0, 1])):
                for row in itertools.product(carvings, repeat=3):
                    bench = Bench(stone)
                    plain = PlainBench(stone)
                    for number, needs in enumerate(([], second, third)):
                        pane, place = chosen[number]
                        bench.put(pane, place, (number,), needs)
                        plain.put(pane, place, (number,), needs)
                    for pane, most in row:
                        self.assertEqual(bench.carve(pane, most), plain.carve(pane, most))
                        self.assertEqual(told_of(bench), plain.told())


class OwnBenchTest(unittest.TestCase):
    """What is handed in stays as it was and is not kept; what is told is the asker's own."""

    def test_the_stone_handed_in(self):
        stone = [list(pane) for pane in STONE]
        bench = Bench(stone)
        bench.put(0, 0, (7,))
        bench.carve(0)
        self.assertEqual(stone, STONE)
        stone[0][0] = (50,)
        stone[0][1] = (51,)
        stone[1].append((52,))
        stone.append([(53,)])
        self.assertEqual(bench.stone(), [[(7,), (2,), (3,)], [(4,), (5,)], [(6,)]])
        self.assertEqual(bench.seen(0, 1), (2,))
        with self.assertRaises(NoPlace):
            bench.put(1, 2, (1,))
        with self.assertRaises(NoPlace):
            bench.carve(3)
        stone.clear()
        self.assertEqual(bench.seen(1, 1), (5,))

    def test_panes_handed_in_that_are_one(self):
        pane = [(1,), (2,)]
        bench = Bench([pane, pane, pane])
        bench.put(1, 0, (7,))
        bench.carve(1)
        self.assertEqual(bench.stone(), [[(1,), (2,)], [(7,), (2,)], [(1,), (2,)]])
        self.assertEqual(pane, [(1,), (2,)])
        told = bench.stone()
        told[0].append((9,))
        self.assertEqual(told, [[(1,), (2,), (9,)], [(7,), (2,)], [(1,), (2,)]])

    def test_the_needs_handed_in(self):
        bench = three_panes()
        for place in range(3):
            bench.put(0, place, (9,))
        needs = [2, 0, 2]
        bench.put(0, 1, (8,), needs)
        self.assertEqual(needs, [2, 0, 2])
        self.assertEqual(bench.change(3)[3], (0, 1, 2))
        needs.append(7)
        needs[0] = 1
        self.assertEqual(bench.change(3)[3], (0, 1, 2))
        empty = []
        bench.put(0, 1, (8,), empty)
        bench.put(2, 0, (8,))
        self.assertEqual(empty, [])
        empty.append(0)
        self.assertEqual(bench.change(4)[3], (3,))
        self.assertEqual(bench.change(5)[3], ())

    def test_needs_left_out_are_not_kept_from_one_put_to_the_next(self):
        bench = three_panes()
        for number in range(3):
            bench.put(0, 0, (number,))
        bench.put(1, 0, (3,))
        self.assertEqual(bench.change(3)[3], ())

    def test_the_lists_told_are_new_ones(self):
        bench = woven()
        bench.carve(0)
        before = told_of(bench)
        for told in (bench.stone(), bench.stone()[0], bench.changes(), bench.settled(), bench.waiting()):
            self.assertIs(type(told), list)
            told.reverse()
            told.append(5)
            told[0] = 77
            self.assertEqual(told_of(bench), before)
        stone = bench.stone()
        for pane in stone:
            pane.clear()
        self.assertEqual(told_of(bench), before)

    def test_a_carvings_list_is_the_askers_own(self):
        for most in (None, 0, 1, 5):
            bench = woven()
            told = bench.carve(0, most)
            before = told_of(bench)
            told.append(4)
            told.append(3)
            self.assertEqual(told_of(bench), before)
            self.assertEqual(bench.carve(1), [] if most == 0 else [2])

    def test_what_is_told_stays_as_it_was(self):
        bench = woven()
        carved = bench.carve(0, 1)
        stone = bench.stone()
        changes = bench.changes()
        settled = bench.settled()
        waiting = bench.waiting()
        bench.put(0, 0, (90,))
        for pane in (0, 1, 2, 0, 1):
            bench.carve(pane)
        self.assertEqual(carved, [0])
        self.assertEqual(stone, [[(10,), (2,), (3,)], [(4,), (5,)], [(6,)]])
        self.assertEqual(len(changes), 6)
        self.assertEqual(settled, [0])
        self.assertEqual(waiting, [1, 2, 3, 4, 5])

    def test_the_kinds_told(self):
        bench = woven()
        self.assertIs(type(bench.change(3)), tuple)
        self.assertIs(type(bench.change(3)[3]), tuple)
        self.assertIs(type(bench.seen(0, 0)), tuple)
        self.assertIs(type(bench.put(0, 0, (1,))), int)
        self.assertEqual([type(change) for change in bench.changes()], [tuple] * 7)
        for told in (bench.carve(0), bench.carve(0, 1), bench.settled(), bench.waiting()):
            self.assertIs(type(told), list)
            self.assertEqual([type(number) for number in told], [int] * len(told))

    def test_two_benches_of_one_stone_know_nothing_of_one_another(self):
        stone = [list(pane) for pane in STONE]
        one = Bench(stone)
        other = Bench(stone)
        one.put(0, 0, (7,))
        one.carve(0)
        self.assertEqual(told_of(other), (STONE, [], [], [], STONE))
        self.assertEqual(other.put(2, 0, (8,)), 0)
        self.assertEqual(one.changes(), [(0, 0, (7,), ())])


if __name__ == "__main__":
    unittest.main()
