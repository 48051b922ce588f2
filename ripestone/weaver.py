"""The weaver: boxes enter the string, are rewritten and leave it, in changes that keep the stone sound in any order."""

from ripestone.bench import Bench
from ripestone.errors import Full
from ripestone.records import AGE, KEY, NEXT, NOW, WAS, spot_of
from ripestone.strings import HEAD, loose_boxes, many_boxes, string_of


def known(numbers):
    return [number for number in numbers if number is not None]


class Weaver:
    def __init__(self, stone):
        self.bench = Bench(stone)
        self.spots = [spot_of(stone, box) for box in range(many_boxes(stone))]
        self.string = string_of(stone)
        self.loose = loose_boxes(stone)
        self.lasts = {}
        self.comings = {}
        self.goings = {}

    def record_of(self, box):
        spot = self.spots[box]
        return self.bench.seen(spot[0], spot[1])

    def order(self):
        return list(self.string)

    def free(self):
        return sorted(self.loose)

    def box_of(self, key):
        for box in self.string:
            if self.record_of(box)[KEY] == key:
                return box
        return None

    def coming_in(self, box):
        return self.comings.get(box)

    def going_out(self, box):
        return self.goings.get(box)

    def last_change(self, box):
        return self.lasts.get(box)

    # An entering asks for two changes: looked at only with the second, a wrong need would leave the first behind.
    def further_needs(self, needs):
        further = [] if needs is None else list(needs)
        for need in further:
            self.bench.check_change(need)
        return further

    def box_ahead(self, place):
        return ([HEAD] + self.string)[place]

    def write(self, box, record, needed):
        spot = self.spots[box]
        number = self.bench.put(spot[0], spot[1], record, known(needed))
        self.lasts[box] = number
        return number

    # Only what has come in may be changed on the stone: else the change would be found in a box that is still loose.
    def write_tied(self, box, record, needed):
        return self.write(box, record, [self.coming_in(box)] + needed)

    def link(self, box, following, needed):
        record = self.record_of(box)
        return self.write_tied(box, (record[KEY], following, record[WAS], record[NOW], record[AGE]), needed)

    def enter(self, key, was, now, age, needs=None):
        if len(self.loose) == 0:
            raise Full("no box is free")
        further = self.further_needs(needs)
        place = len([box for box in self.string if self.record_of(box)[KEY] < key])
        ahead = self.box_ahead(place)
        box = min(self.loose)
        filled = self.write(box, (key, self.record_of(ahead)[NEXT], was, now, age), [self.going_out(box)])
        coming = self.link(ahead, box, [filled] + further)
        self.string.insert(place, box)
        self.loose.remove(box)
        self.comings[box] = coming
        return (box, coming)

    def rewrite(self, box, was, now, age, needs=None):
        record = self.record_of(box)
        return self.write_tied(box, (record[KEY], record[NEXT], was, now, age), self.further_needs(needs))

    def leave(self, box, needs=None):
        ahead = self.box_ahead(self.string.index(box))
        needed = [self.last_change(box)] + self.further_needs(needs)
        going = self.link(ahead, self.record_of(box)[NEXT], needed)
        self.string.remove(box)
        self.loose.append(box)
        self.goings[box] = going
        return going
