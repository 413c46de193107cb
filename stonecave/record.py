"""A game: a cave as it was read, what was pressed, and how it stands now."""

from stonecave.cave import copy_cave, count_gems
from stonecave.tick import Standing, copy_standing, is_over, run_tick


class Game:
    def __init__(self, cave, tick_parts):
        self.as_read = cave
        self.pressed = []
        self.now = Standing(copy_cave(cave))
        self.left_over = 0
        self.tick_parts = tick_parts
        self.held = 0


def copy_game(game):
    # The cave as it was read is never changed, so both games may have the same one.
    twin = Game(game.as_read, game.tick_parts)
    twin.pressed = list(game.pressed)
    twin.now = copy_standing(game.now)
    twin.left_over = game.left_over
    twin.held = game.held
    return twin


def count_ticks(game):
    return len(game.pressed)


def how_it_stands(game):
    now = game.now
    return [now.outcome, now.points, count_ticks(game), count_gems(now.cave)]


def press(game, key):
    if not is_over(game.now):
        game.pressed.append(key)
        run_tick(game.now, key)
