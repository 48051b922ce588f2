"""Tidying: a box with an age is brought to age 0 or leaves, and its age's seal isn't changed ahead of that."""

from ripestone.records import AGE, NONE, record_at, seal_spot, worth_by
from ripestone.strings import string_of

NO_AGE = 0


# A seal is told by its spot (pane, place): the ages that share it are those for which the same changes are held.
class Tidier:
    def __init__(self, weaver):
        self.weaver = weaver
        self.for_seals = {}

    def held_for(self, seal):
        return list(self.for_seals.get(seal, []))

    def tidy(self, box, worth, needs=None):
        if worth == NONE:
            return self.weaver.leave(box, needs)
        return self.weaver.rewrite(box, NONE, worth, NO_AGE, needs)

    def tidy_string(self, stone):
        for box in string_of(stone):
            record = record_at(stone, box)
            if record[AGE] != NO_AGE:
                change = self.tidy(box, worth_by(stone, record))
                self.for_seals.setdefault(seal_spot(stone, record[AGE]), []).append(change)

    # The boxes are pairs (box, worth). What was held till now is needed by the sealing change itself,
    # so it needn't be held any longer.
    def tidy_behind(self, seal, sealing, boxes):
        self.for_seals[seal] = [self.tidy(box, worth, [sealing]) for box, worth in boxes]
