"""What several tests draw on: all small needs, and the document's words told as slowly as they stand there."""

import itertools


def subsets(numbers):
    numbers = list(numbers)
    for size in range(len(numbers) + 1):
        for some in itertools.combinations(numbers, size):
            yield list(some)


def all_needs(many):
    """Every list of needs of so many things, the tuples rising."""
    choices = [[tuple(some) for some in subsets(range(number))] for number in range(many)]
    for needs in itertools.product(*choices):
        yield list(needs)


def turned(numbers):
    """The same numbers in another order: the greatest first, then the others upwards."""
    numbers = sorted(numbers)
    return numbers[-1:] + numbers[:-1]


def told_often(numbers):
    """The same numbers in another order, each of them several times."""
    return list(reversed(numbers)) + list(numbers) + list(numbers[:1])


def closed_by_words(needs, some):
    return all(set(needs[number]) <= set(some) for number in some)


def closed_sets(needs):
    return [some for some in subsets(range(len(needs))) if closed_by_words(needs, some)]


def scattered_needs(many, random):
    """Needs of more things than can be gone through wholly, the tuples in any order."""
    needs = []
    for number in range(many):
        needs.append(tuple(random.sample(range(number), random.randrange(min(number, 3) + 1))))
    return needs


def with_needs(panes, needs):
    return [(pane, 0, (number,), tuple(needs[number])) for number, pane in enumerate(panes)]


def is_ripe_by_words(changes, settled, pane, number):
    if number in settled or changes[number][0] != pane:
        return False
    return all(need in settled or is_ripe_by_words(changes, settled, pane, need) for need in changes[number][3])


def ripe_by_words(changes, settled, pane):
    return [number for number in range(len(changes)) if is_ripe_by_words(changes, settled, pane, number)]


def thing_by_words(stone, changes, some, pane, place):
    there = [number for number in some if changes[number][:2] == (pane, place)]
    return changes[max(there)][2] if there else stone[pane][place]


def laid_by_words(stone, changes, some):
    return [
        [thing_by_words(stone, changes, some, pane, place) for place in range(len(stone[pane]))]
        for pane in range(len(stone))
    ]


def scattered_changes(many, panes, random):
    """Changes of so many panes with needs of no order, each tuple rising as those of changes are."""
    needs = [tuple(sorted(need)) for need in scattered_needs(many, random)]
    return with_needs([random.randrange(panes) for number in range(many)], needs)


def turn_by_words(changes, settled, number):
    if number in settled:
        return 0
    pane = changes[number][0]
    turn = 1
    for need in changes[number][3]:
        if need not in settled:
            step = 0 if changes[need][0] == pane else 1
            turn = max(turn, turn_by_words(changes, settled, need) + step)
    return turn


def lists_in(value):
    """The value's own lists, itself among them, each as often as it comes."""
    if isinstance(value, (list, tuple)):
        found = [value] if isinstance(value, list) else []
        for inner in value:
            found = found + lists_in(inner)
        return found
    return []


def spoil(value):
    for one in lists_in(value):
        one.reverse()
        one.append((99,))
        one.append((98,))
