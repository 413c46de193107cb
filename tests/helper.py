"""Calls as they are handed in, and answers taken apart again."""

from stonecave.game import answers

LOOKS = ">v<^"


def bytes_of(rows):
    return [ord(sign) for row in rows for sign in row + "\n"]


def cave_bytes(text):
    return [0, len(text)] + list(text)


def cave(*rows):
    return cave_bytes(bytes_of(rows))


def hold(key):
    return [1, key]


def frame(parts):
    return [2, parts]


def speed(parts):
    return [3, parts]


def save(where):
    return [4, where]


def load(where):
    return [5, where]


def shows():
    return [6]


def ask(*calls):
    """What each call answers, a list a call."""
    told = answers([number for call in calls for number in call])
    apart = []
    at = 0
    while at < len(told):
        apart.append(told[at + 1:at + 1 + told[at]])
        at += 1 + told[at]
    if at != len(told) or len(apart) != len(calls):
        raise AssertionError("the answers don't fit the calls: %r" % told)
    return apart


def last(*calls):
    return ask(*calls)[-1]


def picture(shown):
    """The rows that shows tells."""
    count, text = shown[0], shown[1:]
    if count != len(text) or text[-1] != 10:
        raise AssertionError("no cave's text: %r" % shown)
    return bytes(text).decode("ascii").split("\n")[:-1]


def pressing(rows, keys):
    """The calls that press these keys in that cave, one a tick."""
    calls = [cave(*rows), speed(1)]
    for key in keys:
        calls += [hold(key), frame(1)]
    return calls


def after(rows, keys=(0,)):
    """The rows behind as many ticks as there are keys."""
    return picture(last(*pressing(rows, keys), shows()))


def standing(rows, keys=(0,)):
    """How it stands behind as many ticks as there are keys."""
    return last(*pressing(rows, keys))[:4]


def turned(rows):
    """The same cave, turned once clockwise, and all that look in it too."""
    signs = {look: LOOKS[(at + 1) % 4] for at, look in enumerate(LOOKS)}
    return ["".join(signs.get(sign, sign) for sign in column)
            for column in zip(*reversed(rows))]


def all_turns(rows, goal):
    """Four pairs of a cave and what is to come of it: as told, and turned."""
    pairs = []
    for turn in range(4):
        pairs.append((turn, rows, goal))
        rows, goal = turned(rows), turned(goal)
    return pairs
