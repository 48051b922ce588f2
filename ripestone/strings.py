"""The string: the boxes of a table's stone, one told by the next of the one ahead, and the rows found along it."""

from ripestone.records import AGE, KEY, NEXT, NONE, NOW, WAS, record_at, worth_by

HEAD = 0


def many_boxes(stone):
    return len(stone) * (len(stone[0]) - 1)


# It stops at a box that comes again, too, so that a stone can be asked whether its string ends.
def string_of(stone):
    found = {}
    box = record_at(stone, HEAD)[NEXT]
    while box != HEAD and box not in found:
        found[box] = True
        box = record_at(stone, box)[NEXT]
    return list(found)


def loose_boxes(stone):
    tied = string_of(stone)
    return [box for box in range(HEAD + 1, many_boxes(stone)) if box not in tied]


def is_whole(value):
    return isinstance(value, int) and not isinstance(value, bool)


def are_whole(thing, many):
    return isinstance(thing, tuple) and len(thing) == many and all([is_whole(number) for number in thing])


def is_grid(thing):
    if not isinstance(thing, list) or not 1 <= len(thing) <= 8:
        return False
    if not all([isinstance(pane, list) for pane in thing]):
        return False
    return 2 <= len(thing[0]) <= 9 and all([len(pane) == len(thing[0]) for pane in thing])


def is_seal(thing):
    return are_whole(thing, 1) and thing[0] >= 0


def is_record(thing, boxes):
    if not are_whole(thing, 5):
        return False
    return 0 <= thing[NEXT] < boxes and thing[WAS] >= NONE and thing[NOW] >= NONE and thing[AGE] >= 0


def is_full_pane(pane, boxes):
    return is_seal(pane[-1]) and all([is_record(thing, boxes) for thing in pane[:-1]])


def is_sound_string(stone):
    boxes = string_of(stone)
    if record_at(stone, ([HEAD] + boxes)[-1])[NEXT] != HEAD:
        return False
    records = [record_at(stone, box) for box in boxes]
    if any([record[AGE] == 0 and record[NOW] == NONE for record in records]):
        return False
    return all([low[KEY] < high[KEY] for low, high in zip(records, records[1:])])


def is_sound(thing):
    if not is_grid(thing):
        return False
    boxes = many_boxes(thing)
    return all([is_full_pane(pane, boxes) for pane in thing]) and is_sound_string(thing)


def rows_found(stone):
    rows = []
    for box in string_of(stone):
        record = record_at(stone, box)
        worth = worth_by(stone, record)
        if worth != NONE:
            rows.append((record[KEY], worth))
    return rows
