"""A cave, its text, and what is at fault with a text."""

from stonecave.things import FALLING_GEM, LYING_GEM, PLAYER, WALL, byte_of, count_kinds, is_known_byte, thing_of

ROW_END = 10
MOST_IN_A_ROW = 20
MOST_ROWS = 14

STRANGE_BYTE = 1
UNEVEN_ROWS = 2
WRONG_SIZE = 3
NOT_ONE_PLAYER = 4


# The places are one list, row behind row, with a rim of wall round them: beyond the cave all is wall,
# and with the rim every place of the cave has a neighbour on each side.
class Cave:
    def __init__(self, wide, high, places):
        self.wide = wide
        self.high = high
        self.places = places


# How far apart two rows begin in the list of places.
def stride(cave):
    return cave.wide + 2


# How far it is to the neighbour at the right, below, at the left and above: the order of keys and of looks.
def steps(cave):
    return (1, stride(cave), -1, -stride(cave))


def row_begin(cave, down):
    return (down + 1) * stride(cave) + 1


# Without the rim.
def row_of(cave, down):
    begin = row_begin(cave, down)
    return cave.places[begin:begin + cave.wide]


def is_within(cave, across, down):
    return across < cave.wide and down < cave.high


# Asked of a place within the cave alone.
def thing_at(cave, across, down):
    return cave.places[row_begin(cave, down) + across]


def copy_cave(cave):
    return Cave(cave.wide, cave.high, list(cave.places))


# The size is asked too: the rim of one cave may be alike to what's in another that is as large.
def are_same_caves(cave, other):
    return cave.wide == other.wide and cave.high == other.high and cave.places == other.places


def count_gems(cave):
    return cave.places.count(LYING_GEM) + cave.places.count(FALLING_GEM)


# Counted row by row, as the rim is none of the cave's wall.
def count_things(cave):
    counts = [0] * count_kinds()
    for down in range(cave.high):
        for thing in row_of(cave, down):
            counts[thing] += 1
    return counts


def split_rows(text):
    rows = []
    row = []
    for byte in text:
        if byte == ROW_END:
            rows.append(row)
            row = []
        else:
            row.append(byte)
    # The last row's byte 10 may lack.
    if len(row) > 0:
        rows.append(row)
    return rows


def has_strange_byte(text):
    return any([byte != ROW_END and not is_known_byte(byte) for byte in text])


def has_uneven_rows(rows):
    return any([len(row) != len(rows[0]) for row in rows])


# Asked of rows that are all as long, so that the first one speaks for all.
def has_wrong_size(rows):
    if len(rows) == 0 or len(rows) > MOST_ROWS:
        return True
    return len(rows[0]) == 0 or len(rows[0]) > MOST_IN_A_ROW


# 0 where there is none.
def find_fault(text):
    rows = split_rows(text)
    if has_strange_byte(text):
        return STRANGE_BYTE
    if has_uneven_rows(rows):
        return UNEVEN_ROWS
    if has_wrong_size(rows):
        return WRONG_SIZE
    if text.count(byte_of(PLAYER)) != 1:
        return NOT_ONE_PLAYER
    return 0


# Asked of a text without a fault alone.
def read_cave(text):
    rows = split_rows(text)
    rim = [WALL] * (len(rows[0]) + 2)
    places = list(rim)
    for row in rows:
        places.append(WALL)
        places.extend([thing_of(byte) for byte in row])
        places.append(WALL)
    places.extend(rim)
    return Cave(len(rows[0]), len(rows), places)


def write_cave(cave):
    text = []
    for down in range(cave.high):
        text.extend([byte_of(thing) for thing in row_of(cave, down)])
        text.append(ROW_END)
    return text
