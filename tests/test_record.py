import unittest

from stonecave.cave import read_cave, write_cave
from stonecave.record import Game, copy_game, press, standing_behind, standing_now
from tests.helper import bytes_of

TEXT = bytes_of(["@*: ", "#o  ", "#  >"])


class WhatAGameIs(unittest.TestCase):
    def setUp(self):
        self.game = Game(read_cave(TEXT), 7)

    def test_the_cave_stays_as_it_was_read(self):
        for key in (1, 1, 2):
            press(self.game, key)
        self.assertEqual(write_cave(standing_behind(self.game, 0).cave), TEXT)
        self.assertNotEqual(write_cave(standing_now(self.game).cave), TEXT)

    def test_what_was_pressed_at_each_tick(self):
        for key in (1, 0, 4, 2):
            press(self.game, key)
        self.assertEqual(self.game.pressed, [1, 0, 4, 2])

    def test_nothing_is_recorded_when_it_is_over(self):
        game = Game(read_cave(bytes_of(["@ E"])), 10)
        for key in (1, 1, 3, 2):
            press(game, key)
        self.assertEqual(game.pressed, [1, 1])

    def test_a_copy_is_the_same_game_and_goes_its_own_way(self):
        self.game.left_over = 3
        self.game.held = 2
        press(self.game, 1)
        twin = copy_game(self.game)
        shown = write_cave(standing_now(twin).cave)
        press(self.game, 1)
        self.assertEqual((twin.left_over, twin.held, twin.tick_parts), (3, 2, 7))
        self.assertEqual(twin.pressed, [1])
        self.assertEqual((standing_now(twin).outcome, standing_now(twin).points), (0, 10))
        self.assertEqual(write_cave(standing_now(twin).cave), shown)
        self.assertEqual(write_cave(standing_behind(twin, 0).cave), TEXT)


if __name__ == "__main__":
    unittest.main()
