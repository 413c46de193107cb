"""What can be at a place of a cave, by its number and by its byte."""

NOTHING = 0
EARTH = 1
WALL = 2
LYING_STONE = 3
FALLING_STONE = 4
LYING_GEM = 5
FALLING_GEM = 6
PLAYER = 7
MONSTER_RIGHT = 8
MONSTER_DOWN = 9
MONSTER_LEFT = 10
MONSTER_UP = 11
WAY_OUT = 12

# A thing's byte stands where the thing's number tells.
BYTES = (32, 58, 35, 111, 79, 42, 43, 64, 62, 118, 60, 94, 69)


def is_known_byte(byte):
    return byte in BYTES


def byte_of(thing):
    return BYTES[thing]


# Asked of a known byte alone.
def thing_of(byte):
    found = [thing for thing, known in enumerate(BYTES) if known == byte]
    return found[0]


def count_kinds():
    return len(BYTES)


def is_lying(thing):
    return thing == LYING_STONE or thing == LYING_GEM


def is_falling(thing):
    return thing == FALLING_STONE or thing == FALLING_GEM


def is_gem(thing):
    return thing == LYING_GEM or thing == FALLING_GEM


def is_monster(thing):
    return MONSTER_RIGHT <= thing <= MONSTER_UP


# Of a stone or gem alone: the same one as it lies.
def lying(thing):
    return LYING_GEM if is_gem(thing) else LYING_STONE


# Of a stone or gem alone: the same one as it falls.
def falling(thing):
    return FALLING_GEM if is_gem(thing) else FALLING_STONE
