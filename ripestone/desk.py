"""The desk: it keeps a table, is told rows of words and answers each with a text."""

from ripestone.errors import NoRow, NoText
from ripestone.papers import turn_of, waits_for, way_for, why
from ripestone.parts import PUT, TAKE, amount_of, key_of
from ripestone.records import blank_stone
from ripestone.strings import rows_found
from ripestone.table import Table
from ripestone.texts import read_number, read_stone, write_number, write_stone

BLANK = " "
AFTER = "after"
FALL = "fall"
LOAD = "load "
OK = "ok"
NOTHING = "-"
NO_WORTH = "none"
WORDS_OF_PART = {"put": 3, "take": 2}


def number_in(word):
    try:
        return read_number(word)
    except NoText:
        raise NoRow("a word should write a number and doesn't") from None


def numbers_in(words):
    if len(words) == 0:
        raise NoRow("a number is lacking")
    return [number_in(word) for word in words]


def number_alone(words):
    numbers = numbers_in(words)
    if len(numbers) > 1:
        raise NoRow("there are words too many")
    return numbers[0]


def check_no_words(words):
    if len(words) > 0:
        raise NoRow("there are words too many")


def deed_words(words):
    return words[:words.index(AFTER)] if AFTER in words else words


def wishes_in(words):
    return numbers_in(words[words.index(AFTER) + 1:]) if AFTER in words else []


def parts_in(words):
    parts = []
    place = 0
    while place < len(words):
        word = words[place]
        if word not in WORDS_OF_PART:
            raise NoRow("a part begins with put or take")
        behind = place + WORDS_OF_PART[word]
        if behind > len(words):
            raise NoRow("a part is broken off")
        parts.append(tuple([word] + numbers_in(words[place + 1:behind])))
        place = behind
    return parts


def part_alone(word, words):
    parts = parts_in([word] + deed_words(words))
    if len(parts) > 1:
        raise NoRow("there are words too many")
    return parts[0]


def write_numbers(numbers):
    return BLANK.join([write_number(number) for number in numbers]) if len(numbers) > 0 else NOTHING


def write_row(row):
    return write_number(row[0]) + ":" + write_number(row[1])


def write_rows(rows):
    return BLANK.join([write_row(row) for row in rows]) if len(rows) > 0 else NOTHING


# Each of these reads all its words ahead of asking the table: so NoRow goes ahead of what the table refuses.
def answer_put(table, words):
    part = part_alone(PUT, words)
    return write_number(table.put(key_of(part), amount_of(part), wishes_in(words)))


def answer_take(table, words):
    part = part_alone(TAKE, words)
    return write_number(table.take(key_of(part), wishes_in(words)))


def answer_pact(table, words):
    return write_number(table.pact(parts_in(deed_words(words)), wishes_in(words)))


def answer_carve(table, words):
    pane = number_alone(words[:1])
    most = number_alone(words[1:]) if len(words) > 1 else None
    if most is not None and most < 0:
        raise NoRow("a carving takes none or more")
    return write_numbers(table.carve(pane, most))


def answer_get(table, words):
    worth = table.get(number_alone(words))
    return NO_WORTH if worth is None else write_number(worth)


def answer_rows(table, words):
    check_no_words(words)
    return write_rows(table.rows())


def answer_found(table, words):
    check_no_words(words)
    return write_rows(rows_found(table.stone()))


def answer_stone(table, words):
    check_no_words(words)
    return write_stone(table.stone())


def answer_standing(table, words):
    check_no_words(words)
    return write_numbers(table.standing())


def answer_turn(table, words):
    return write_number(turn_of(table, number_alone(words)))


def answer_why(table, words):
    return write_numbers(why(table, number_alone(words)))


def answer_waits(table, words):
    return write_numbers(waits_for(table, number_alone(words)))


def answer_way(table, words):
    return write_numbers(way_for(table, numbers_in(words)))


ANSWERS = {
    "put": answer_put, "take": answer_take, "pact": answer_pact, "carve": answer_carve, "get": answer_get,
    "rows": answer_rows, "found": answer_found, "stone": answer_stone, "standing": answer_standing,
    "turn": answer_turn, "why": answer_why, "waits": answer_waits, "way": answer_way,
}


class Desk:
    def __init__(self, panes=3, rows=4):
        self.table = Table(blank_stone(panes, rows))

    # The old table is kept where the stone is refused.
    def come_up(self, stone):
        self.table = Table(stone)
        return OK

    def say(self, row):
        if not isinstance(row, str):
            raise NoRow("this is no text")
        if row == FALL:
            return self.come_up(self.table.stone())
        if row.startswith(LOAD):
            return self.come_up(read_stone(row[len(LOAD):]))
        words = row.split(BLANK)
        if words[0] not in ANSWERS:
            raise NoRow("there is no such row")
        return ANSWERS[words[0]](self.table, words[1:])
