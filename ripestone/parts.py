"""Parts: puts and takes of keys, and what they make of rows, done plainly."""

from ripestone.errors import NoKey, NoWorth, Twice

PUT = "put"
TAKE = "take"


def is_put(part):
    return part[0] == PUT


def key_of(part):
    return part[1]


def amount_of(part):
    return part[2]


# The keys that came are looked at first, so the rows that were there at the beginning will do for each part.
def check_parts(worths, parts):
    came = {}
    for part in parts:
        key = key_of(part)
        if key in came:
            raise Twice("a key comes in two parts")
        if is_put(part) and amount_of(part) < 0:
            raise NoWorth("a worth is below 0")
        if not is_put(part) and key not in worths:
            raise NoKey("there is no such key to take")
        came[key] = True


def plainly(rows, parts):
    worths = dict(rows)
    check_parts(worths, parts)
    for part in parts:
        if is_put(part):
            worths[key_of(part)] = amount_of(part)
        else:
            worths.pop(key_of(part))
    return sorted(worths.items())
