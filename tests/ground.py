"""What several tests draw on: all small needs, and the document's words told as slowly as they stand there."""

import itertools

from ripestone.records import blank_stone


def subsets(numbers):
    numbers = list(numbers)
    for size in range(len(numbers) + 1):
        for some in itertools.combinations(numbers, size):
            yield list(some)


def all_needs(many):
    """Every list of needs of so many things, the tuples rising."""
    choices = [[tuple(some) for some in subsets(range(number))] for number in range(many)]
    for needs in itertools.product(*choices):
        yield list(needs)


def turned(numbers):
    """The same numbers in another order: the greatest first, then the others upwards."""
    numbers = sorted(numbers)
    return numbers[-1:] + numbers[:-1]


def told_often(numbers):
    """The same numbers in another order, each of them several times."""
    return list(reversed(numbers)) + list(numbers) + list(numbers[:1])


def closed_by_words(needs, some):
    return all(set(needs[number]) <= set(some) for number in some)


def closed_sets(needs):
    """Number by number: each closed one by itself and, where it holds what the number needs, with the number."""
    found = [[]]
    for number, need in enumerate(needs):
        found = found + [some + [number] for some in found if set(need) <= set(some)]
    return found


def scattered_needs(many, random):
    """Needs of more things than can be gone through wholly, the tuples in any order."""
    needs = []
    for number in range(many):
        needs.append(tuple(random.sample(range(number), random.randrange(min(number, 3) + 1))))
    return needs


def with_needs(panes, needs):
    return [(pane, 0, (number,), tuple(needs[number])) for number, pane in enumerate(panes)]


def is_ripe_by_words(changes, settled, pane, number):
    if number in settled or changes[number][0] != pane:
        return False
    return all(need in settled or is_ripe_by_words(changes, settled, pane, need) for need in changes[number][3])


def ripe_by_words(changes, settled, pane):
    return [number for number in range(len(changes)) if is_ripe_by_words(changes, settled, pane, number)]


def thing_by_words(stone, changes, some, pane, place):
    there = [number for number in some if changes[number][:2] == (pane, place)]
    return changes[max(there)][2] if there else stone[pane][place]


def laid_by_words(stone, changes, some):
    return [
        [thing_by_words(stone, changes, some, pane, place) for place in range(len(stone[pane]))]
        for pane in range(len(stone))
    ]


def scattered_changes(many, panes, random):
    """Changes of so many panes with needs of no order, each tuple rising as those of changes are."""
    needs = [tuple(sorted(need)) for need in scattered_needs(many, random)]
    return with_needs([random.randrange(panes) for number in range(many)], needs)


def turn_by_words(changes, settled, number):
    if number in settled:
        return 0
    pane = changes[number][0]
    turn = 1
    for need in changes[number][3]:
        if need not in settled:
            step = 0 if changes[need][0] == pane else 1
            turn = max(turn, turn_by_words(changes, settled, need) + step)
    return turn


def strung(panes, rows, boxes, keys=None):
    """A stone with the string of these boxes; of box b the key is told or the place in the string, the now is b."""
    stone = blank_stone(panes, rows)
    for place, (box, following) in enumerate(zip([0] + boxes, boxes + [0])):
        key = place if keys is None or place == 0 else keys[place - 1]
        stone[box % panes][box // panes] = (key, following, -1, box, 0)
    return stone


def record_by_words(stone, box):
    return stone[box % len(stone)][box // len(stone)]


def string_by_words(stone):
    """The string, or None where it doesn't end."""
    string = []
    box = record_by_words(stone, 0)[1]
    while box != 0:
        if box in string:
            return None
        string.append(box)
        box = record_by_words(stone, box)[1]
    return string


def is_sound_by_words(stone):
    """Of a stone of the right form, its numbers within their bounds: the string alone."""
    string = string_by_words(stone)
    if string is None:
        return False
    records = [record_by_words(stone, box) for box in string]
    keys = [record[0] for record in records]
    return keys == sorted(set(keys)) and all(record[4] != 0 or record[3] >= 0 for record in records)


def worth_by_words(stone, record):
    was, now, age = record[2:]
    return now if age == 0 or stone[age % len(stone)][-1] == (age,) else was


def rows_by_words(stone):
    records = [record_by_words(stone, box) for box in string_by_words(stone)]
    return [(record[0], worth_by_words(stone, record)) for record in records if worth_by_words(stone, record) != -1]


def sound_by_chance(chance, panes, rows):
    """A string of some boxes in any order; ages, seals, the head's record and loose boxes as they may be."""
    many = panes * rows

    def record(key, following, age):
        return (key, following, chance.randrange(-1, 9), chance.randrange(0 if age == 0 else -1, 9), age)

    stone = [
        [record(chance.randrange(-30, 30), chance.randrange(many), chance.randrange(6)) for row in range(rows)]
        + [(chance.randrange(6),)]
        for pane in range(panes)
    ]
    boxes = chance.sample(range(1, many), chance.randrange(many))
    keys = sorted(chance.sample(range(-30, 30), len(boxes)))
    for box, following, key in zip([0] + boxes, boxes + [0], [chance.randrange(-30, 30)] + keys):
        stone[box % panes][box // panes] = record(key, following, chance.choice((0, chance.randrange(6))))
    return stone


class PlainWeaver:
    """The document's words of the weaver, told each time from the changes alone."""

    def __init__(self, stone):
        self.first = stone
        self.changes = []
        self.comings = []
        self.goings = []

    def seen(self):
        return laid_by_words(self.first, self.changes, range(len(self.changes)))

    def record_of(self, box):
        return record_by_words(self.seen(), box)

    def order(self):
        return string_by_words(self.seen())

    def boxes(self):
        return range(len(self.first) * (len(self.first[0]) - 1))

    def free(self):
        order = self.order()
        return [box for box in self.boxes() if box != 0 and box not in order]

    def coming_in(self, box):
        return ([None] + [number for one, number in self.comings if one == box])[-1]

    def going_out(self, box):
        return ([None] + [number for one, number in self.goings if one == box])[-1]

    def last_change(self, box):
        spot = (box % len(self.first), box // len(self.first))
        return ([None] + [number for number, change in enumerate(self.changes) if change[:2] == spot])[-1]

    def put(self, pane, place, thing, needs):
        there = [number for number, change in enumerate(self.changes) if change[:2] == (pane, place)]
        needed = [need for need in needs + there[-1:] if need is not None]
        self.changes.append((pane, place, thing, tuple(sorted(set(needed)))))
        return len(self.changes) - 1

    def change_record(self, box, record, needs):
        return self.put(box % len(self.first), box // len(self.first), record, needs)

    def change_next(self, box, following, needs):
        key, old, was, now, age = self.record_of(box)
        return self.change_record(box, (key, following, was, now, age), needs + [self.coming_in(box)])

    def enter(self, key, was, now, age, needs=()):
        ahead = ([0] + [box for box in self.order() if self.record_of(box)[0] < key])[-1]
        box = self.free()[0]
        following = self.record_of(ahead)[1]
        first = self.change_record(box, (key, following, was, now, age), [self.going_out(box)])
        self.comings.append((box, self.change_next(ahead, box, [first] + list(needs))))
        return self.comings[-1]

    def rewrite(self, box, was, now, age, needs=()):
        record = self.record_of(box)[:2] + (was, now, age)
        return self.change_record(box, record, [self.coming_in(box)] + list(needs))

    def leave(self, box, needs=()):
        order = [0] + self.order()
        ahead = order[order.index(box) - 1]
        following = self.record_of(box)[1]
        self.goings.append((box, self.change_next(ahead, following, [self.last_change(box)] + list(needs))))
        return self.goings[-1][1]

    def told(self):
        boxes = self.boxes()
        return (
            self.order(), self.free(), self.changes, [self.record_of(box) for box in boxes],
            [self.coming_in(box) for box in boxes], [self.going_out(box) for box in boxes],
            [self.last_change(box) for box in boxes],
        )

    def string_with(self, settled):
        """The boxes of the string, by their keys, as the settled ones of the comings in and goings out say."""
        keys = {box: record_by_words(self.first, box)[0] for box in string_by_words(self.first)}
        for number in sorted(settled):
            for box, coming in self.comings:
                if coming == number:
                    keys[box] = self.changes[number - 1][2][0]
            for box, going in self.goings:
                if going == number:
                    keys.pop(box)
        return sorted(keys, key=keys.get)


def told_of_weaver(weaver):
    stone = weaver.bench.stone()
    boxes = range(len(stone) * (len(stone[0]) - 1))
    return (
        weaver.order(), weaver.free(), weaver.bench.changes(), [weaver.record_of(box) for box in boxes],
        [weaver.coming_in(box) for box in boxes], [weaver.going_out(box) for box in boxes],
        [weaver.last_change(box) for box in boxes],
    )


def lists_in(value):
    """The value's own lists, itself among them, each as often as it comes."""
    if isinstance(value, (list, tuple)):
        found = [value] if isinstance(value, list) else []
        for inner in value:
            found = found + lists_in(inner)
        return found
    return []


def spoil(value):
    for one in lists_in(value):
        one.reverse()
        one.append((99,))
        one.append((98,))
