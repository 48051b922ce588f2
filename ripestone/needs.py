"""Needs: a list in which at place k stands a tuple of the lesser numbers that k needs."""


# A dict, since sets are not kept here and a list would make each look-up a walk.
def marked(numbers):
    marks = {}
    for number in numbers:
        marks[number] = True
    return marks


def is_closed(needs, some):
    held = marked(some)
    for number in held:
        if not all([need in held for need in needs[number]]):
            return False
    return True


# A list of what is still to be looked at stands in the place of recursion:
# needs may go thousands of steps down.
def closure(needs, some):
    held = marked(some)
    unseen = list(held)
    while len(unseen) > 0:
        number = unseen.pop()
        for need in needs[number]:
            if need not in held:
                held[need] = True
                unseen.append(need)
    return sorted(held)


# Needs are less than what needs them, so one walk upwards finds all from which low can be come to.
def leading_down(needs, high, low):
    leading = {low: True}
    for number in range(low + 1, high + 1):
        if any([need in leading for need in needs[number]]):
            leading[number] = True
    return leading


def chain(needs, high, low):
    leading = leading_down(needs, high, low)
    if high not in leading:
        return []
    number = high
    links = [number]
    while number != low:
        number = min([need for need in needs[number] if need in leading])
        links.append(number)
    return links
