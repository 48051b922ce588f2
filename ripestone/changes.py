"""Changes: a list of tuples (pane, place, thing, needs), each numbered by its place in the list."""

from ripestone.needs import marked

PANE = 0
PLACE = 1
THING = 2
NEEDS = 3


def needs_of(changes):
    return [change[NEEDS] for change in changes]


# The numbers are of one pane, rising, none of them held: whatever needs a change comes behind it,
# so one walk upwards finds all that are ripe.
def ripe_among(changes, held, numbers):
    found = {}
    for number in numbers:
        if all([need in held or need in found for need in changes[number][NEEDS]]):
            found[number] = True
    return list(found)


def ripe(changes, settled, pane):
    held = marked(settled)
    numbers = [number for number, change in enumerate(changes) if change[PANE] == pane and number not in held]
    return ripe_among(changes, held, numbers)


# Upwards, so that the greatest number of a place is the last to be put there.
def laid(stone, changes, some):
    panes = [list(pane) for pane in stone]
    for number in sorted(some):
        change = changes[number]
        panes[change[PANE]][change[PLACE]] = change[THING]
    return panes
