"""The bench: changes are asked for in memory, and come onto the stone as its panes are carved."""

from ripestone.changes import PANE, PLACE, THING, ripe_among
from ripestone.errors import NoChange, NoPlace


class Bench:
    def __init__(self, stone):
        self.panes = [list(pane) for pane in stone]
        self.asked = []
        self.newest = {}
        self.held = {}
        # By pane, so that a carving doesn't go through all that was ever asked for.
        self.unsettled = [[] for pane in stone]

    def check_pane(self, pane):
        if not 0 <= pane < len(self.panes):
            raise NoPlace("there is no such pane")

    def check_place(self, pane, place):
        self.check_pane(pane)
        if not 0 <= place < len(self.panes[pane]):
            raise NoPlace("there is no such place")

    def check_change(self, number):
        if not 0 <= number < len(self.asked):
            raise NoChange("there is no such change")

    def put(self, pane, place, thing, needs=None):
        self.check_place(pane, place)
        needed = [] if needs is None else list(needs)
        for need in needed:
            self.check_change(need)
        if (pane, place) in self.newest:
            needed.append(self.newest[(pane, place)])
        number = len(self.asked)
        self.asked.append((pane, place, thing, tuple(sorted(set(needed)))))
        self.newest[(pane, place)] = number
        self.unsettled[pane].append(number)
        return number

    # Where nothing was asked for, nothing was carved either: what lay there at first still does.
    def seen(self, pane, place):
        self.check_place(pane, place)
        if (pane, place) in self.newest:
            return self.asked[self.newest[(pane, place)]][THING]
        return self.panes[pane][place]

    def strike(self, number):
        change = self.asked[number]
        self.panes[change[PANE]][change[PLACE]] = change[THING]
        self.held[number] = True

    def carve(self, pane, most=None):
        self.check_pane(pane)
        taken = ripe_among(self.asked, self.held, self.unsettled[pane])
        if most is not None:
            taken = taken[:max(most, 0)]
        for number in taken:
            self.strike(number)
        self.unsettled[pane] = [number for number in self.unsettled[pane] if number not in self.held]
        return taken

    def stone(self):
        return [list(pane) for pane in self.panes]

    def change(self, number):
        self.check_change(number)
        return self.asked[number]

    def changes(self):
        return list(self.asked)

    def settled(self):
        return sorted(self.held)

    def waiting(self):
        return [number for number in range(len(self.asked)) if number not in self.held]
