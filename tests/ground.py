"""What several tests draw on: all small needs, and the document's words told as slowly as they stand there."""

import itertools

from ripestone.errors import Full, NoDeed, NoKey, NoWorth, Twice
from ripestone.records import blank_stone


def subsets(numbers):
    numbers = list(numbers)
    for size in range(len(numbers) + 1):
        for some in itertools.combinations(numbers, size):
            yield list(some)


def all_needs(many):
    """Every list of needs of so many things, the tuples rising."""
    choices = [[tuple(some) for some in subsets(range(number))] for number in range(many)]
    for needs in itertools.product(*choices):
        yield list(needs)


def turned(numbers):
    """The same numbers in another order: the greatest first, then the others upwards."""
    numbers = sorted(numbers)
    return numbers[-1:] + numbers[:-1]


def told_often(numbers):
    """The same numbers in another order, each of them several times."""
    return list(reversed(numbers)) + list(numbers) + list(numbers[:1])


def closed_by_words(needs, some):
    return all(set(needs[number]) <= set(some) for number in some)


def closed_sets(needs):
    """Number by number: each closed one by itself and, where it holds what the number needs, with the number."""
    found = [[]]
    for number, need in enumerate(needs):
        found = found + [some + [number] for some in found if set(need) <= set(some)]
    return found


def scattered_needs(many, random):
    """Needs of more things than can be gone through wholly, the tuples in any order."""
    needs = []
    for number in range(many):
        needs.append(tuple(random.sample(range(number), random.randrange(min(number, 3) + 1))))
    return needs


def with_needs(panes, needs):
    return [(pane, 0, (number,), tuple(needs[number])) for number, pane in enumerate(panes)]


def is_ripe_by_words(changes, settled, pane, number, known):
    """What is known already is kept by the asker: needs may come to one number in very many ways."""
    if number in settled or changes[number][0] != pane:
        return False
    if number not in known:
        known[number] = all(
            need in settled or is_ripe_by_words(changes, settled, pane, need, known) for need in changes[number][3]
        )
    return known[number]


def ripe_by_words(changes, settled, pane):
    known = {}
    return [number for number in range(len(changes)) if is_ripe_by_words(changes, settled, pane, number, known)]


def thing_by_words(stone, changes, some, pane, place):
    there = [number for number in some if changes[number][:2] == (pane, place)]
    return changes[max(there)][2] if there else stone[pane][place]


def laid_by_words(stone, changes, some):
    return [
        [thing_by_words(stone, changes, some, pane, place) for place in range(len(stone[pane]))]
        for pane in range(len(stone))
    ]


def scattered_changes(many, panes, random):
    """Changes of so many panes with needs of no order, each tuple rising as those of changes are."""
    needs = [tuple(sorted(need)) for need in scattered_needs(many, random)]
    return with_needs([random.randrange(panes) for number in range(many)], needs)


def turn_by_words(changes, settled, number, known=None):
    known = {} if known is None else known
    if number in settled:
        return 0
    if number not in known:
        turn = 1
        for need in changes[number][3]:
            if need not in settled:
                step = 0 if changes[need][0] == changes[number][0] else 1
                turn = max(turn, turn_by_words(changes, settled, need, known) + step)
        known[number] = turn
    return known[number]


def turns_by_words(changes, settled):
    known = {}
    return [turn_by_words(changes, settled, number, known) for number in range(len(changes))]


def slow_chain_by_words(changes, settled, goal):
    if goal in settled:
        return []
    known = turns_by_words(changes, settled)
    links = [goal]
    while known[links[-1]] > 1:
        last = links[-1]
        giving = [
            need for need in changes[last][3]
            if need not in settled and known[last] == known[need] + (changes[need][0] != changes[last][0])
        ]
        links.append(min(giving))
    return links


def wanted_by_words(changes, settled, goals):
    wanted = set(goals)
    for number in reversed(range(len(changes))):
        if number in wanted:
            wanted |= set(changes[number][3])
    return wanted - set(settled)


def plan_by_words(changes, settled, goals):
    wanted = wanted_by_words(changes, settled, goals)
    known = turns_by_words(changes, settled)
    done = set(settled)
    told = []
    for turn in range(1, max([known[number] for number in wanted], default=0) + 1):
        for pane in range(max(change[0] for change in changes) + 1):
            if any(changes[number][0] == pane and known[number] == turn for number in wanted - done):
                told.append(pane)
                done |= set(ripe_by_words(changes, done, pane))
    return told


def strung(panes, rows, boxes, keys=None):
    """A stone with the string of these boxes; of box b the key is told or the place in the string, the now is b."""
    stone = blank_stone(panes, rows)
    for place, (box, following) in enumerate(zip([0] + boxes, boxes + [0])):
        key = place if keys is None or place == 0 else keys[place - 1]
        stone[box % panes][box // panes] = (key, following, -1, box, 0)
    return stone


def record_by_words(stone, box):
    return stone[box % len(stone)][box // len(stone)]


def string_by_words(stone):
    """The string, or None where it doesn't end."""
    string = []
    box = record_by_words(stone, 0)[1]
    while box != 0:
        if box in string:
            return None
        string.append(box)
        box = record_by_words(stone, box)[1]
    return string


def is_sound_by_words(stone):
    """Of a stone of the right form, its numbers within their bounds: the string alone."""
    string = string_by_words(stone)
    if string is None:
        return False
    records = [record_by_words(stone, box) for box in string]
    keys = [record[0] for record in records]
    return keys == sorted(set(keys)) and all(record[4] != 0 or record[3] >= 0 for record in records)


def aged(panes, rows, strung_boxes, seals):
    """A stone with the string of such (box, key, was, now, age)."""
    stone = strung(panes, rows, [one[0] for one in strung_boxes], [one[1] for one in strung_boxes])
    for box, key, was, now, age in strung_boxes:
        following = record_by_words(stone, box)[1]
        stone[box % panes][box // panes] = (key, following, was, now, age)
    for pane, seal in enumerate(seals):
        stone[pane][rows] = (seal,)
    return stone


def worth_by_words(stone, record):
    was, now, age = record[2:]
    return now if age == 0 or stone[age % len(stone)][-1] == (age,) else was


def rows_by_words(stone):
    records = [record_by_words(stone, box) for box in string_by_words(stone)]
    return [(record[0], worth_by_words(stone, record)) for record in records if worth_by_words(stone, record) != -1]


def sound_by_chance(chance, panes, rows):
    """A string of some boxes in any order; ages, seals, the head's record and loose boxes as they may be."""
    many = panes * rows

    def record(key, following, age):
        return (key, following, chance.randrange(-1, 9), chance.randrange(0 if age == 0 else -1, 9), age)

    stone = [
        [record(chance.randrange(-30, 30), chance.randrange(many), chance.randrange(6)) for row in range(rows)]
        + [(chance.randrange(6),)]
        for pane in range(panes)
    ]
    boxes = chance.sample(range(1, many), chance.randrange(many))
    keys = sorted(chance.sample(range(-30, 30), len(boxes)))
    for box, following, key in zip([0] + boxes, boxes + [0], [chance.randrange(-30, 30)] + keys):
        stone[box % panes][box // panes] = record(key, following, chance.choice((0, chance.randrange(6))))
    return stone


class PlainWeaver:
    """The document's words of the weaver, told each time from the changes alone."""

    def __init__(self, stone):
        self.first = stone
        self.changes = []
        self.comings = []
        self.goings = []

    def seen(self):
        return laid_by_words(self.first, self.changes, range(len(self.changes)))

    def record_of(self, box):
        return record_by_words(self.seen(), box)

    def order(self):
        return string_by_words(self.seen())

    def boxes(self):
        return range(len(self.first) * (len(self.first[0]) - 1))

    def free(self):
        order = self.order()
        return [box for box in self.boxes() if box != 0 and box not in order]

    def coming_in(self, box):
        return ([None] + [number for one, number in self.comings if one == box])[-1]

    def going_out(self, box):
        return ([None] + [number for one, number in self.goings if one == box])[-1]

    def last_change(self, box):
        spot = (box % len(self.first), box // len(self.first))
        return ([None] + [number for number, change in enumerate(self.changes) if change[:2] == spot])[-1]

    def put(self, pane, place, thing, needs):
        there = [number for number, change in enumerate(self.changes) if change[:2] == (pane, place)]
        needed = [need for need in needs + there[-1:] if need is not None]
        self.changes.append((pane, place, thing, tuple(sorted(set(needed)))))
        return len(self.changes) - 1

    def change_record(self, box, record, needs):
        return self.put(box % len(self.first), box // len(self.first), record, needs)

    def change_next(self, box, following, needs):
        key, old, was, now, age = self.record_of(box)
        return self.change_record(box, (key, following, was, now, age), needs + [self.coming_in(box)])

    def enter(self, key, was, now, age, needs=()):
        ahead = ([0] + [box for box in self.order() if self.record_of(box)[0] < key])[-1]
        box = self.free()[0]
        following = self.record_of(ahead)[1]
        first = self.change_record(box, (key, following, was, now, age), [self.going_out(box)])
        self.comings.append((box, self.change_next(ahead, box, [first] + list(needs))))
        return self.comings[-1]

    def rewrite(self, box, was, now, age, needs=()):
        record = self.record_of(box)[:2] + (was, now, age)
        return self.change_record(box, record, [self.coming_in(box)] + list(needs))

    def leave(self, box, needs=()):
        order = [0] + self.order()
        ahead = order[order.index(box) - 1]
        following = self.record_of(box)[1]
        self.goings.append((box, self.change_next(ahead, following, [self.last_change(box)] + list(needs))))
        return self.goings[-1][1]

    def told(self):
        boxes = self.boxes()
        return (
            self.order(), self.free(), self.changes, [self.record_of(box) for box in boxes],
            [self.coming_in(box) for box in boxes], [self.going_out(box) for box in boxes],
            [self.last_change(box) for box in boxes],
        )

    def string_with(self, settled):
        """The boxes of the string, by their keys, as the settled ones of the comings in and goings out say."""
        keys = {box: record_by_words(self.first, box)[0] for box in string_by_words(self.first)}
        for number in sorted(settled):
            for box, coming in self.comings:
                if coming == number:
                    keys[box] = self.changes[number - 1][2][0]
            for box, going in self.goings:
                if going == number:
                    keys.pop(box)
        return sorted(keys, key=keys.get)


def told_of_weaver(weaver):
    stone = weaver.bench.stone()
    boxes = range(len(stone) * (len(stone[0]) - 1))
    return (
        weaver.order(), weaver.free(), weaver.bench.changes(), [weaver.record_of(box) for box in boxes],
        [weaver.coming_in(box) for box in boxes], [weaver.going_out(box) for box in boxes],
        [weaver.last_change(box) for box in boxes],
    )


def plainly_by_words(rows, parts):
    """What the parts make of the rows, none of them being refused."""
    worths = dict(rows)
    for part in parts:
        worths.pop(part[1], None)
        if part[0] == "put":
            worths[part[1]] = part[2]
    return sorted(worths.items())


def entering_by_words(rows, parts):
    there = [key for key, worth in rows]
    return [part for part in parts if part[0] == "put" and part[1] not in there]


class PlainTable:
    """The document's words of the table, told with a plain weaver; deeds are such (decider, parts, wishes)."""

    def __init__(self, stone):
        self.first = stone
        self.plain = PlainWeaver(stone)
        self.newest = rows_by_words(stone)
        # Of a record the last number is its age, of a seal its only one.
        self.age = 1 + max(thing[-1] for pane in stone for thing in pane)
        self.held = {pane: [] for pane in range(len(stone))}
        self.deeds = []
        for box in string_by_words(stone):
            record = record_by_words(stone, box)
            if record[4] != 0:
                self.held[record[4] % len(stone)].append(self.tidy(box, worth_by_words(stone, record), []))

    def tidy(self, box, worth, needs):
        return self.plain.leave(box, needs) if worth == -1 else self.plain.rewrite(box, -1, worth, 0, needs)

    def box_of(self, key):
        return ([None] + [box for box in self.plain.order() if self.plain.record_of(box)[0] == key])[-1]

    def refusal(self, parts, after):
        """The error with which a deed is refused, or None."""
        if any(not 0 <= deed < len(self.deeds) for deed in after or []):
            return NoDeed
        for place, part in enumerate(parts):
            if part[1] in [other[1] for other in parts[:place]]:
                return Twice
            if part[0] == "put" and part[2] < 0:
                return NoWorth
            if part[0] == "take" and part[1] not in [key for key, worth in self.newest]:
                return NoKey
        return Full if len(self.plain.free()) < len(entering_by_words(self.newest, parts)) else None

    def alone(self, part, needs):
        box = self.box_of(part[1])
        if part[0] == "take":
            return self.plain.leave(box, needs)
        if box is None:
            return self.plain.enter(part[1], -1, part[2], 0, needs)[1]
        return self.plain.rewrite(box, -1, part[2], 0, needs)

    def pact(self, parts, needs):
        needs = list(needs)
        boxes = []
        for part in parts:
            box = self.box_of(part[1])
            now = part[2] if part[0] == "put" else -1
            if box is None:
                box, change = self.plain.enter(part[1], -1, now, self.age)
            else:
                change = self.plain.rewrite(box, dict(self.newest)[part[1]], now, self.age)
            boxes.append((box, now))
            needs.append(change)
        pane = self.age % len(self.first)
        sealing = self.plain.put(pane, len(self.first[0]) - 1, (self.age,), needs + self.held[pane])
        self.held[pane] = [self.tidy(box, now, [sealing]) for box, now in boxes]
        self.age = self.age + 1
        return sealing

    def ask(self, alone, parts, after):
        """A deed that isn't refused."""
        wishes = sorted(set(after or []))
        needs = [self.deeds[deed][0] for deed in wishes]
        decider = self.alone(parts[0], needs) if alone else self.pact(parts, needs)
        self.deeds.append((decider, list(parts), wishes))
        self.newest = plainly_by_words(self.newest, parts)

    def told(self, settled=()):
        standing = [deed for deed, told in enumerate(self.deeds) if told[0] in settled]
        there = laid_by_words(self.first, self.plain.changes, settled)
        return (self.plain.told(), self.newest, len(self.deeds), self.deeds, standing, there)


def deeds_of(table):
    return [(table.decider(deed), table.parts_of(deed), table.wishes_of(deed)) for deed in range(table.many_deeds())]


def told_of_table(table):
    return (
        told_of_weaver(table.weaver), table.rows(), table.many_deeds(), deeds_of(table), table.standing(),
        table.stone(),
    )


def ask(table, alone, parts, after):
    """A put or a take by itself where it is alone, else a pact."""
    if not alone:
        return table.pact(parts, after)
    if parts[0][0] == "put":
        return table.put(parts[0][1], parts[0][2], after)
    return table.take(parts[0][1], after)


def deed_by_chance(chance, keys, many):
    """Such (alone, parts, after) as may be asked of a table with so many deeds; perhaps it is refused."""
    after = [chance.randrange(many) for wish in range(chance.choice((0, 0, 1, 3)))] if many else None
    some = chance.sample(keys, chance.randrange(min(len(keys), 3) + 1))
    parts = [chance.choice((("put", key, chance.randrange(6)), ("take", key))) for key in some]
    return (len(parts) == 1 and chance.random() < 0.7, parts, after)


def ask_by_chance(chance, table, keys):
    """The next deed that isn't refused; there is always one, a pact of no parts."""
    while True:
        alone, parts, after = deed_by_chance(chance, keys, table.many_deeds())
        try:
            return ask(table, alone, parts, after)
        except (Full, NoKey):
            pass


def needed_by_words(changes, deeds):
    """By each deed the other ones whose deciding change is in the closure of its own."""
    closures = []
    for number, change in enumerate(changes):
        closures.append({number}.union(*[closures[need] for need in change[3]]))
    return [
        [other for other, told in enumerate(deeds) if other != deed and told[0] in closures[deeds[deed][0]]]
        for deed in range(len(deeds))
    ]


def orders_by_words(deeds, needed):
    """Each order of the deeds in which none comes ahead of one that it needs."""
    if not deeds:
        yield []
    for deed in deeds:
        if not set(needed[deed]) & set(deeds):
            for behind in orders_by_words([other for other in deeds if other != deed], needed):
                yield [deed] + behind


def order_by_chance(chance, deeds, needed):
    """One such order."""
    order = []
    while len(order) < len(deeds):
        order.append(chance.choice([
            deed for deed in deeds if deed not in order and not set(needed[deed]) & set(deeds) - set(order)
        ]))
    return order


def made_by_words(rows, deeds, order):
    for deed in order:
        rows = plainly_by_words(rows, deeds[deed][1])
    return rows


def check_promise(test, first, changes, deeds, settled, chance=None):
    """Point 3 of the stone that came up as the first and on which these changes lie; told which deeds stand.

    Each order of the deeds that stand is gone through or, with a chance, one of them.
    """
    settled = set(settled)
    there = laid_by_words(first, changes, settled)
    standing = [deed for deed, told in enumerate(deeds) if told[0] in settled]
    needed = needed_by_words(changes, deeds)
    test.assertTrue(closed_by_words([change[3] for change in changes], settled))
    test.assertTrue(is_sound_by_words(there))
    found = rows_by_words(there)
    test.assertEqual(found, made_by_words(rows_by_words(first), deeds, standing))
    orders = orders_by_words(standing, needed) if chance is None else [order_by_chance(chance, standing, needed)]
    for order in orders:
        test.assertEqual(found, made_by_words(rows_by_words(first), deeds, order))
    for deed in standing:
        test.assertLessEqual(set(needed[deed]) | set(deeds[deed][2]), set(standing))
    for key in {part[1] for told in deeds for part in told[1]}:
        of_key = [deed for deed, told in enumerate(deeds) if key in [part[1] for part in told[1]]]
        stood = [deed for deed in of_key if deed in standing]
        test.assertEqual(stood, of_key[:len(stood)])
    return standing


def lists_in(value):
    """The value's own lists, itself among them, each as often as it comes."""
    if isinstance(value, (list, tuple)):
        found = [value] if isinstance(value, list) else []
        for inner in value:
            found = found + lists_in(inner)
        return found
    return []


def spoil(value):
    for one in lists_in(value):
        one.reverse()
        one.append((99,))
        one.append((98,))
