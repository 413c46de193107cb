"""A game: a cave as it was read, what was pressed, and how it stood behind each tick."""

from stonecave.cave import count_gems
from stonecave.tick import Standing, copy_standing, is_over, run_tick, stand_alike


# How it stood behind each tick, from the cave as it was read on, is kept, so that it needn't be played again to be
# seen. None of these is changed any more: a tick runs on a copy, and so several games may have the same ones.
class Game:
    def __init__(self, cave, tick_parts):
        self.stood = [Standing(cave)]
        self.pressed = []
        self.left_over = 0
        self.tick_parts = tick_parts
        self.held = 0


def copy_game(game):
    twin = Game(game.stood[0].cave, game.tick_parts)
    twin.stood = list(game.stood)
    twin.pressed = list(game.pressed)
    twin.left_over = game.left_over
    twin.held = game.held
    return twin


def count_ticks(game):
    return len(game.pressed)


# Asked of as many ticks as there were, at the most.
def standing_behind(game, ticks):
    return game.stood[ticks]


def standing_now(game):
    return standing_behind(game, count_ticks(game))


def how_it_stood(game, ticks):
    standing = standing_behind(game, ticks)
    return [standing.outcome, standing.points, ticks, count_gems(standing.cave)]


def how_it_stands(game):
    return how_it_stood(game, count_ticks(game))


def press(game, key):
    if is_over(standing_now(game)):
        return
    standing = copy_standing(standing_now(game))
    run_tick(standing, key)
    game.stood.append(standing)
    game.pressed.append(key)


def go_back(game, ticks):
    game.stood = game.stood[:ticks + 1]
    game.pressed = game.pressed[:ticks]
    game.left_over = 0


# Behind how many ticks two games first stand otherwise; None where they're alike as far as both go.
def find_parting(game, other):
    for ticks in range(min(count_ticks(game), count_ticks(other)) + 1):
        if not stand_alike(standing_behind(game, ticks), standing_behind(other, ticks)):
            return ticks
    return None
