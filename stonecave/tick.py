"""How a cave stands, and what a tick does to it."""

from stonecave.cave import are_same_caves, copy_cave, count_gems, row_begin, steps
from stonecave.things import EARTH, LYING_GEM, LYING_STONE, MONSTER_RIGHT, NOTHING, PLAYER, WAY_OUT
from stonecave.things import falling, is_falling, is_gem, is_lying, is_monster, lying

GOES_ON = 0
WON = 1
LOST = 2

# The ways, as they stand in the order of a cave's steps.
RIGHT = 0
DOWN = 1
LEFT = 2

POINTS_FOR_GEM = 10
POINTS_FOR_MONSTER = 20
POINTS_FOR_WAY_OUT = 100


class Standing:
    def __init__(self, cave):
        self.cave = cave
        self.outcome = GOES_ON
        self.points = 0


class Tick:
    def __init__(self, standing, key):
        self.standing = standing
        self.places = standing.cave.places
        self.steps_to = steps(standing.cave)
        self.key = key
        self.had_turn = {}


def copy_standing(standing):
    twin = Standing(copy_cave(standing.cave))
    twin.outcome = standing.outcome
    twin.points = standing.points
    return twin


def stand_alike(standing, other):
    if standing.outcome != other.outcome or standing.points != other.points:
        return False
    return are_same_caves(standing.cave, other.cave)


def is_over(standing):
    return standing.outcome != GOES_ON


def run_tick(standing, key):
    cave = standing.cave
    tick = Tick(standing, key)
    for down in range(cave.high):
        begin = row_begin(cave, down)
        for place in range(begin, begin + cave.wide):
            if is_over(standing):
                return
            if place not in tick.had_turn:
                take_turn(tick, place)


def take_turn(tick, place):
    thing = tick.places[place]
    if thing == PLAYER:
        turn_player(tick, place)
    elif is_lying(thing) or is_falling(thing):
        turn_loose(tick, place)
    elif is_monster(thing):
        turn_monster(tick, place)


# A thing may become another on its way, as one that lies becomes one that falls.
def go(tick, place, there, thing):
    tick.places[place] = NOTHING
    tick.places[there] = thing
    tick.had_turn[there] = True


def end(tick, outcome):
    standing = tick.standing
    standing.outcome = outcome


def score(tick, points):
    standing = tick.standing
    standing.points += points


def turn_player(tick, place):
    if tick.key == 0:
        return
    way = tick.key - 1
    there = place + tick.steps_to[way]
    thing = tick.places[there]
    if thing == NOTHING or thing == EARTH:
        go(tick, place, there, PLAYER)
    elif is_gem(thing):
        go(tick, place, there, PLAYER)
        score(tick, POINTS_FOR_GEM)
    elif thing == LYING_STONE and (way == RIGHT or way == LEFT):
        push(tick, place, way)
    elif thing == WAY_OUT and count_gems(tick.standing.cave) == 0:
        tick.places[place] = NOTHING
        score(tick, POINTS_FOR_WAY_OUT)
        end(tick, WON)


def push(tick, place, way):
    stone = place + tick.steps_to[way]
    behind = stone + tick.steps_to[way]
    if tick.places[behind] == NOTHING:
        go(tick, stone, behind, LYING_STONE)
        go(tick, place, stone, PLAYER)


def turn_loose(tick, place):
    thing = tick.places[place]
    there = place + tick.steps_to[DOWN]
    below = tick.places[there]
    if below == NOTHING:
        go(tick, place, there, falling(thing))
    elif is_falling(thing) and below == PLAYER:
        go(tick, place, there, lying(thing))
        end(tick, LOST)
    elif is_falling(thing) and is_monster(below):
        hit_monster(tick, place, there)
    elif is_lying(below):
        roll(tick, place)
    else:
        tick.places[place] = lying(thing)


def hit_monster(tick, place, there):
    tick.places[place] = lying(tick.places[place])
    tick.places[there] = LYING_GEM
    tick.had_turn[there] = True
    score(tick, POINTS_FOR_MONSTER)


def roll(tick, place):
    thing = tick.places[place]
    for way in (LEFT, RIGHT):
        there = place + tick.steps_to[way]
        below = there + tick.steps_to[DOWN]
        if tick.places[there] == NOTHING and tick.places[below] == NOTHING:
            go(tick, place, there, falling(thing))
            return
    tick.places[place] = lying(thing)


def turn_monster(tick, place):
    if any([tick.places[place + step] == PLAYER for step in tick.steps_to]):
        end(tick, LOST)
        return
    looks = tick.places[place] - MONSTER_RIGHT
    # The ways stand clockwise: one back is at the left hand, one on at the right.
    for way in ((looks + 3) % 4, looks):
        there = place + tick.steps_to[way]
        if tick.places[there] == NOTHING:
            go(tick, place, there, MONSTER_RIGHT + way)
            return
    tick.places[place] = MONSTER_RIGHT + (looks + 1) % 4
