"""What several tests draw on: all small needs, and the document's words told as slowly as they stand there."""

import itertools


def subsets(numbers):
    numbers = list(numbers)
    for size in range(len(numbers) + 1):
        for some in itertools.combinations(numbers, size):
            yield list(some)


def all_needs(many):
    """Every list of needs of so many things, the tuples rising."""
    choices = [[tuple(some) for some in subsets(range(number))] for number in range(many)]
    for needs in itertools.product(*choices):
        yield list(needs)


def turned(numbers):
    """The same numbers in another order: the greatest first, then the others upwards."""
    numbers = sorted(numbers)
    return numbers[-1:] + numbers[:-1]


def told_often(numbers):
    """The same numbers in another order, each of them several times."""
    return list(reversed(numbers)) + list(numbers) + list(numbers[:1])


def closed_by_words(needs, some):
    return all(set(needs[number]) <= set(some) for number in some)


def closed_sets(needs):
    return [some for some in subsets(range(len(needs))) if closed_by_words(needs, some)]


def scattered_needs(many, random):
    """Needs of more things than can be gone through wholly, the tuples in any order."""
    needs = []
    for number in range(many):
        needs.append(tuple(random.sample(range(number), random.randrange(min(number, 3) + 1))))
    return needs
