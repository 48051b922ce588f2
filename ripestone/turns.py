"""Turns: how many carvings a change waits for at least, for which needs it does, and which carvings will do."""

from ripestone.changes import NEEDS, PANE, needs_of
from ripestone.needs import closure, marked


def waiting_needs(changes, known, number):
    return [need for need in changes[number][NEEDS] if known[need] > 0]


# The turn that a need gives to what needs it: one carving settles both only where they are of the same pane.
def turn_through(changes, known, number, need):
    if changes[need][PANE] == changes[number][PANE]:
        return known[need]
    return known[need] + 1


def turns(changes, settled):
    held = marked(settled)
    known = []
    for number in range(len(changes)):
        if number in held:
            known.append(0)
        else:
            needed = waiting_needs(changes, known, number)
            known.append(max([1] + [turn_through(changes, known, number, need) for need in needed]))
    return known


def slow_need(changes, known, number):
    needed = waiting_needs(changes, known, number)
    return min([need for need in needed if turn_through(changes, known, number, need) == known[number]])


def slow_chain(changes, settled, goal):
    known = turns(changes, settled)
    if known[goal] == 0:
        return []
    number = goal
    links = [number]
    while known[number] > 1:
        number = slow_need(changes, known, number)
        links.append(number)
    return links


def wanted_by_turn(changes, known, goals):
    wanted = [number for number in closure(needs_of(changes), goals) if known[number] > 0]
    return sorted(wanted, key=lambda number: (known[number], changes[number][PANE], number))


# How many carvings there are where none of that pane comes from the start on.
def first_carving(carvings, pane, start):
    place = start
    while place < len(carvings) and carvings[place] != pane:
        place = place + 1
    return place


# A change is settled by the first carving of its pane that isn't ahead of those that settle what it needs. It is
# looked for change by change, since carving in thought each time would go through all changes for each carving.
# The changes come in the order of the carvings: what one needs is there already, and so are the carvings ahead of
# its own turn; only where none of these settles it a carving of its own is told.
def plan(changes, settled, goals):
    known = turns(changes, settled)
    carvings = []
    settled_by = {}
    for number in wanted_by_turn(changes, known, goals):
        pane = changes[number][PANE]
        start = max([settled_by[need] for need in waiting_needs(changes, known, number)], default=0)
        place = first_carving(carvings, pane, start)
        if place == len(carvings):
            carvings.append(pane)
        settled_by[number] = place
    return carvings
