"""The table: deeds of keys and worths, each of which stands on the stone wholly or not at all."""

from ripestone.errors import BadStone, Full, NoDeed
from ripestone.needs import marked
from ripestone.parts import PUT, TAKE, amount_of, check_parts, is_put, key_of
from ripestone.records import KEY, NONE, NOW, fresh_age, seal_spot
from ripestone.strings import is_sound
from ripestone.tidying import NO_AGE, Tidier
from ripestone.weaver import Weaver


def worth_left(part):
    return amount_of(part) if is_put(part) else NONE


# Every box of the string in memory has age 0, since what has an age is tidied at once: its now is its newest worth.
class Table:
    def __init__(self, stone):
        if not is_sound(stone):
            raise BadStone("this is no sound stone")
        self.weaver = Weaver(stone)
        self.tidier = Tidier(self.weaver)
        self.next_age = fresh_age(stone)
        self.deciders = []
        self.deed_by_decider = {}
        self.parts_by_deed = []
        self.wishes_by_deed = []
        self.tidier.tidy_string(stone)

    def rows(self):
        records = [self.weaver.record_of(box) for box in self.weaver.order()]
        return [(record[KEY], record[NOW]) for record in records]

    def get(self, key):
        box = self.weaver.box_of(key)
        return None if box is None else self.weaver.record_of(box)[NOW]

    def check_deed(self, deed):
        if not 0 <= deed < len(self.deciders):
            raise NoDeed("there is no such deed")

    def check_room(self, worths, parts):
        entering = [part for part in parts if is_put(part) and key_of(part) not in worths]
        if len(self.weaver.free()) < len(entering):
            raise Full("fewer boxes are free than keys come in")

    def checked_wishes(self, after):
        wishes = [] if after is None else sorted(set(after))
        for deed in wishes:
            self.check_deed(deed)
        return wishes

    def check_all(self, parts):
        worths = dict(self.rows())
        check_parts(worths, parts)
        self.check_room(worths, parts)

    def deciders_of(self, deeds):
        return [self.deciders[deed] for deed in deeds]

    def note(self, decider, parts, wishes):
        deed = len(self.deciders)
        self.deciders.append(decider)
        self.deed_by_decider[decider] = deed
        self.parts_by_deed.append(list(parts))
        self.wishes_by_deed.append(wishes)
        return deed

    def put(self, key, amount, after=None):
        wishes = self.checked_wishes(after)
        parts = [(PUT, key, amount)]
        self.check_all(parts)
        needs = self.deciders_of(wishes)
        box = self.weaver.box_of(key)
        if box is None:
            return self.note(self.weaver.enter(key, NONE, amount, NO_AGE, needs)[1], parts, wishes)
        return self.note(self.weaver.rewrite(box, NONE, amount, NO_AGE, needs), parts, wishes)

    def take(self, key, after=None):
        wishes = self.checked_wishes(after)
        parts = [(TAKE, key)]
        self.check_all(parts)
        return self.note(self.weaver.leave(self.weaver.box_of(key), self.deciders_of(wishes)), parts, wishes)

    # Told as the weaver's entering is: the box, and the change that the sealing one needs.
    def write_part(self, part, age):
        box = self.weaver.box_of(key_of(part))
        if box is None:
            return self.weaver.enter(key_of(part), NONE, amount_of(part), age)
        newest = self.weaver.record_of(box)[NOW]
        return (box, self.weaver.rewrite(box, newest, worth_left(part), age))

    def pact(self, parts, after=None):
        wishes = self.checked_wishes(after)
        self.check_all(parts)
        age = self.next_age
        self.next_age = age + 1
        written = [self.write_part(part, age) for part in parts]
        seal = seal_spot(self.stone(), age)
        needs = self.deciders_of(wishes) + [change for box, change in written] + self.tidier.held_for(seal)
        sealing = self.weaver.bench.put(seal[0], seal[1], (age,), needs)
        boxes = list(zip([box for box, change in written], [worth_left(part) for part in parts]))
        self.tidier.tidy_behind(seal, sealing, boxes)
        return self.note(sealing, parts, wishes)

    # Later deeds are decided by greater changes, so the deeds rise where the changes do.
    def carve(self, pane, most=None):
        taken = self.weaver.bench.carve(pane, most)
        return [self.deed_by_decider[change] for change in taken if change in self.deed_by_decider]

    def standing(self):
        settled = marked(self.weaver.bench.settled())
        return [deed for deed, decider in enumerate(self.deciders) if decider in settled]

    def many_deeds(self):
        return len(self.deciders)

    def decider(self, deed):
        self.check_deed(deed)
        return self.deciders[deed]

    def parts_of(self, deed):
        self.check_deed(deed)
        return list(self.parts_by_deed[deed])

    def wishes_of(self, deed):
        self.check_deed(deed)
        return list(self.wishes_by_deed[deed])

    def stone(self):
        return self.weaver.bench.stone()
