"""Changes: a list of tuples (pane, place, thing, needs), each numbered by its place in the list."""

from ripestone.needs import marked

PANE = 0
PLACE = 1
THING = 2
NEEDS = 3


def needs_of(changes):
    return [change[NEEDS] for change in changes]


# What is ripe counts as held at once: whatever needs a change comes behind it.
def ripe(changes, settled, pane):
    held = marked(settled)
    found = []
    for number, change in enumerate(changes):
        if change[PANE] == pane and number not in held and all([need in held for need in change[NEEDS]]):
            held[number] = True
            found.append(number)
    return found


# Upwards, so that the greatest number of a place is the last to be put there.
def laid(stone, changes, some):
    panes = [list(pane) for pane in stone]
    for number in sorted(some):
        change = changes[number]
        panes[change[PANE]][change[PLACE]] = change[THING]
    return panes
