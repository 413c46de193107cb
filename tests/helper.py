"""Calls as they are handed in, and answers taken apart again."""

import random

from stonecave.game import answers

MOST_CALLS = 40
LOOKS = ">v<^"
STONES = "oO"
GEMS = "*+"
DRAWN_SIGNS = "      :::#ooO**+>v<^E"


def bytes_of(rows):
    return [ord(sign) for row in rows for sign in row + "\n"]


def cave_bytes(text):
    return [0, len(text)] + list(text)


def cave(*rows):
    return cave_bytes(bytes_of(rows))


def hold(key):
    return [1, key]


def frame(parts):
    return [2, parts]


def speed(parts):
    return [3, parts]


def save(where):
    return [4, where]


def load(where):
    return [5, where]


def shows():
    return [6]


def place(across, down):
    return [7, across, down]


def seen(tick):
    return [8, tick]


def back(tick):
    return [9, tick]


def keys():
    return [10]


def play(*pressed):
    return [11, len(pressed)] + list(pressed)


def counts():
    return [12]


def differ(where):
    return [13, where]


def ask(*calls):
    """What each call answers, a list a call."""
    if not 1 <= len(calls) <= MOST_CALLS:
        raise AssertionError("no line has so many calls: %d" % len(calls))
    told = answers([number for call in calls for number in call])
    apart = []
    at = 0
    while at < len(told):
        apart.append(told[at + 1:at + 1 + told[at]])
        at += 1 + told[at]
    if at != len(told) or len(apart) != len(calls):
        raise AssertionError("the answers don't fit the calls: %r" % told)
    return apart


def last(*calls):
    return ask(*calls)[-1]


def picture(shown):
    """The rows that shows tells."""
    count, text = shown[0], shown[1:]
    if count != len(text) or text[-1] != 10:
        raise AssertionError("no cave's text: %r" % shown)
    return bytes(text).decode("ascii").split("\n")[:-1]


def pressing(rows, keys):
    """The calls that press these keys in that cave, one a tick."""
    calls = [cave(*rows), speed(1)]
    for key in keys:
        calls += [hold(key), frame(1)]
    return calls


def after(rows, keys=(0,)):
    """The rows behind as many ticks as there are keys."""
    return picture(last(*pressing(rows, keys), shows()))


def standing(rows, keys=(0,)):
    """How it stands behind as many ticks as there are keys."""
    return last(*pressing(rows, keys))[:4]


def turned(rows):
    """The same cave, turned once clockwise, and all that look in it too."""
    signs = {look: LOOKS[(at + 1) % 4] for at, look in enumerate(LOOKS)}
    return ["".join(signs.get(sign, sign) for sign in column)
            for column in zip(*reversed(rows))]


def all_turns(rows, goal):
    """Four pairs of a cave and what is to come of it: as told, and turned."""
    pairs = []
    for turn in range(4):
        pairs.append((turn, rows, goal))
        rows, goal = turned(rows), turned(goal)
    return pairs


# All that a game and the kept ones are: how it stands, what's left over, what was pressed, and then, from its
# beginning on, the cave as it was read, what's held down and how long a tick takes.
PROBE = [frame(0), shows(), keys(), counts(), back(0), shows(), frame(97), keys()]
for kept in (0, 1, 9):
    PROBE += [load(kept), shows(), keys(), back(0), frame(97), keys()]


def probe(before, calls=()):
    """All that is there behind these calls; of those before them no more than that they were."""
    return ask(*before, *calls, *PROBE)[len(before) + len(calls):]


def draw_cave(draw):
    wide, high = draw.randint(1, 10), draw.randint(1, 8)
    signs = [draw.choice(DRAWN_SIGNS) for drawn in range(wide * high)]
    signs[draw.randrange(len(signs))] = "@"
    return ["".join(signs[begin:begin + wide]) for begin in range(0, len(signs), wide)]


def draw_keys(draw):
    return [draw.randint(0, 4) for tick in range(12)]


def games(how_many):
    """Caves and keys, drawn alike each time."""
    draw = random.Random(2024)
    return [(draw_cave(draw), draw_keys(draw)) for game in range(how_many)]


def count(rows, signs):
    return sum(row.count(sign) for row in rows for sign in signs)
