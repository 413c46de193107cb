"""A line of calls: its game, its kept games, and what each call answers."""

from stonecave.cave import count_things, find_fault, is_within, read_cave, thing_at, write_cave
from stonecave.record import Game, copy_game, count_ticks, find_parting, go_back, how_it_stands, how_it_stood
from stonecave.record import press, standing_behind, standing_now
from stonecave.tick import is_over

FIRST_TEXT = (35, 35, 35, 10, 35, 64, 35, 10, 35, 35, 35, 10)
FIRST_TICK_PARTS = 10

MOST_BYTES = 300
MOST_BYTE = 255
MOST_KEY = 4
MOST_FRAME_PARTS = 1000
MOST_TICK_PARTS = 100
MOST_TICKS = 400
MOST_PRESSED = 100
LAST_WHERE = 9

# The refusals, without their sign.
BEYOND_BOUNDS = 1
NOT_THERE = 2
TOO_MANY_TICKS = 5
ALIKE = 6
FAULT = 10


class Session:
    def __init__(self):
        self.game = Game(read_cave(list(FIRST_TEXT)), FIRST_TICK_PARTS)
        self.kept = {}


def cave_now(session):
    return standing_now(session.game).cave


def refuse(number):
    return [-number]


def answer_cave(session, text):
    if len(text) > MOST_BYTES or any([byte > MOST_BYTE for byte in text]):
        return refuse(BEYOND_BOUNDS)
    fault = find_fault(text)
    if fault > 0:
        return refuse(FAULT + fault)
    cave = read_cave(text)
    session.game = Game(cave, session.game.tick_parts)
    return how_it_stands(session.game) + [cave.wide, cave.high]


def answer_hold(session, given):
    key = given[0]
    if key > MOST_KEY:
        return refuse(BEYOND_BOUNDS)
    game = session.game
    game.held = key
    return [0]


# Counted by the ticks that are asked for, though the game may be over before they are through.
def are_too_many(game, ticks):
    return not is_over(standing_now(game)) and count_ticks(game) + ticks > MOST_TICKS


def answer_frame(session, given):
    parts = given[0]
    game = session.game
    if parts > MOST_FRAME_PARTS:
        return refuse(BEYOND_BOUNDS)
    together = game.left_over + parts
    ticks = together // game.tick_parts
    if are_too_many(game, ticks):
        return refuse(TOO_MANY_TICKS)
    for tick in range(ticks):
        press(game, game.held)
    # Time goes on when the game is over, so that it's the same however it is cut.
    game.left_over = together % game.tick_parts
    return how_it_stands(game) + [game.left_over]


def answer_speed(session, given):
    parts = given[0]
    if parts < 1 or parts > MOST_TICK_PARTS:
        return refuse(BEYOND_BOUNDS)
    game = session.game
    game.tick_parts = parts
    game.left_over = min(game.left_over, parts - 1)
    return [0]


def answer_save(session, given):
    where = given[0]
    if where > LAST_WHERE:
        return refuse(BEYOND_BOUNDS)
    session.kept[where] = copy_game(session.game)
    return [count_ticks(session.game)]


def answer_load(session, given):
    where = given[0]
    if where not in session.kept:
        return refuse(NOT_THERE)
    # A copy goes on, so that what is kept stays as it was and can be loaded again.
    session.game = copy_game(session.kept[where])
    return how_it_stands(session.game) + [session.game.left_over]


# A cave's text with how many bytes it has ahead of it.
def counted_text(cave):
    text = write_cave(cave)
    return [len(text)] + text


def answer_shows(session, given):
    return counted_text(cave_now(session))


def answer_place(session, given):
    across = given[0]
    down = given[1]
    cave = cave_now(session)
    if not is_within(cave, across, down):
        return refuse(NOT_THERE)
    return [thing_at(cave, across, down)]


def answer_seen(session, given):
    ticks = given[0]
    if ticks > count_ticks(session.game):
        return refuse(NOT_THERE)
    return how_it_stood(session.game, ticks) + counted_text(standing_behind(session.game, ticks).cave)


def answer_back(session, given):
    ticks = given[0]
    if ticks > count_ticks(session.game):
        return refuse(NOT_THERE)
    go_back(session.game, ticks)
    return how_it_stands(session.game)


def answer_keys(session, given):
    return [count_ticks(session.game)] + session.game.pressed


def answer_play(session, pressed):
    game = session.game
    if len(pressed) > MOST_PRESSED or any([key > MOST_KEY for key in pressed]):
        return refuse(BEYOND_BOUNDS)
    if are_too_many(game, len(pressed)):
        return refuse(TOO_MANY_TICKS)
    for key in pressed:
        press(game, key)
    return how_it_stands(game)


def answer_counts(session, given):
    return count_things(cave_now(session))


def answer_differ(session, given):
    where = given[0]
    if where not in session.kept:
        return refuse(NOT_THERE)
    parting = find_parting(session.game, session.kept[where])
    return refuse(ALIKE) if parting is None else [parting]


# A call's function stands where the call's number tells.
CALLS = (answer_cave, answer_hold, answer_frame, answer_speed, answer_save, answer_load, answer_shows,
         answer_place, answer_seen, answer_back, answer_keys, answer_play, answer_counts, answer_differ)


def answer_call(session, number, given):
    return CALLS[number](session, given)
