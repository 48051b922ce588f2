"""Records and seals: a table's stone of P panes, each with its boxes and at its last place a seal."""

KEY = 0
NEXT = 1
WAS = 2
NOW = 3
AGE = 4
NONE = -1
BLANK_RECORD = (0, 0, -1, -1, 0)
BLANK_SEAL = (0,)


def blank_stone(panes, rows):
    return [[BLANK_RECORD for row in range(rows)] + [BLANK_SEAL] for pane in range(panes)]


def spot_of(stone, box):
    return (box % len(stone), box // len(stone))


def seal_spot(stone, age):
    return (age % len(stone), len(stone[0]) - 1)


def thing_at(stone, spot):
    return stone[spot[0]][spot[1]]


def record_at(stone, box):
    return thing_at(stone, spot_of(stone, box))


def is_sealed(stone, age):
    return thing_at(stone, seal_spot(stone, age))[0] == age


# Age 0 goes first: it has no seal.
def worth_by(stone, some):
    if some[AGE] == 0 or is_sealed(stone, some[AGE]):
        return some[NOW]
    return some[WAS]


def fresh_age(stone):
    ages = []
    for pane in stone:
        ages.extend([record[AGE] for record in pane[:-1]])
        ages.append(pane[-1][0])
    return max(ages) + 1
