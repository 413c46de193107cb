import unittest

from tests.helper import ask, back, cave, counts, frame, games, hold, keys, last, load, picture, place, play, probe
from tests.helper import save, seen, shows, speed

ROOM = ["@   ", "    "]


class Back(unittest.TestCase):
    def test_it_stands_so(self):
        for tick, wanted in enumerate(([0, 0, 0, 2], [0, 10, 1, 1], [0, 10, 2, 1], [0, 20, 3, 0])):
            told = ask(cave("@* *"), play(1, 1, 1), seen(tick), back(tick), shows(), frame(0))
            self.assertEqual(told[3], wanted)
            self.assertEqual(told[2], told[3] + told[4])
            self.assertEqual(told[5], wanted + [0])

    def test_what_is_there_is_what_was_there(self):
        told = ask(cave("@o  "), play(1, 1), back(1), counts(), place(1, 0), place(2, 0), place(3, 0))
        self.assertEqual(told[3:], [[2, 0, 0, 1, 0, 0, 0, 1, 0, 0, 0, 0, 0], [7], [3], [0]])

    def test_to_0(self):
        told = ask(cave(*ROOM), play(1, 2), back(0), shows(), keys(), seen(0), seen(1))
        self.assertEqual(told[2], [0, 0, 0, 0])
        self.assertEqual(picture(told[3]), ROOM)
        self.assertEqual(told[4], [0])
        self.assertEqual(told[5], [0, 0, 0, 0] + told[3])
        self.assertEqual(told[6], [-2])

    def test_to_0_where_there_was_no_tick(self):
        self.assertEqual(ask(back(0), shows(), back(1))[::2], [[0, 0, 0, 0], [-2]])

    def test_as_many_as_there_were(self):
        told = ask(cave(*ROOM), play(1, 2), shows(), back(2), shows(), keys())
        self.assertEqual(told[3], [0, 0, 2, 0])
        self.assertEqual(told[4], told[2])
        self.assertEqual(told[5], [2, 1, 2])

    def test_one_more_than_there_were(self):
        for tick in (3, 4, 400, 4294967295):
            self.assertEqual(last(cave(*ROOM), play(1, 2), back(tick)), [-2])

    def test_once_gone_back_there_are_less(self):
        self.assertEqual(ask(cave(*ROOM), play(1, 2, 3), back(1), back(2), back(1), back(0), back(1))[2:],
                         [[0, 0, 1, 0], [-2], [0, 0, 1, 0], [0, 0, 0, 0], [-2]])

    def test_what_was_pressed_behind_it_is_forgotten(self):
        told = ask(cave(*ROOM), play(1, 2, 3, 4), back(2), keys(), play(1), keys(), back(2), keys())
        self.assertEqual(told[3], [2, 1, 2])
        self.assertEqual(told[5], [3, 1, 2, 1])
        self.assertEqual(told[7], [2, 1, 2])

    def test_nothing_is_left_over(self):
        for tick in range(3):
            told = ask(cave(*ROOM), frame(27), back(tick), frame(0), frame(9), frame(1))
            self.assertEqual(told[1][4], 7)
            self.assertEqual(told[3], [0, 0, tick, 0, 0])
            self.assertEqual(told[4], [0, 0, tick, 0, 9])
            self.assertEqual(told[5], [0, 0, tick + 1, 0, 0])

    def test_what_is_held_down_and_how_long_a_tick_takes_stay(self):
        told = ask(cave(*ROOM), hold(2), speed(7), frame(7), hold(1), speed(3), frame(3), back(1), frame(7), keys())
        self.assertEqual(told[8], [0, 0, 3, 0, 1])
        self.assertEqual(told[9], [3, 2, 1, 1])

    def test_a_game_that_was_won_goes_on(self):
        told = ask(cave("@ E"), play(1, 1, 1), back(1), shows(), play(0, 1), shows())
        self.assertEqual(told[1:3], [[1, 100, 2, 0], [0, 0, 1, 0]])
        self.assertEqual(picture(told[3]), [" @E"])
        self.assertEqual(told[4], [1, 100, 3, 0])
        self.assertEqual(picture(told[5]), ["  E"])

    def test_a_game_that_was_lost_goes_on(self):
        told = ask(cave("o ", "  ", "  ", "@ "), play(0, 0, 0, 0), back(1), play(1, 0), shows())
        self.assertEqual(told[1:4], [[2, 0, 3, 0], [0, 0, 1, 0], [0, 0, 3, 0]])
        self.assertEqual(picture(told[4]), ["  ", "  ", "  ", "O@"])

    def test_to_the_tick_at_which_it_was_over(self):
        told = ask(cave("@E"), hold(1), frame(35), back(1), frame(10), play(1), keys())
        self.assertEqual(told[3:], [[1, 100, 1, 0], [1, 100, 1, 0, 0], [1, 100, 1, 0], [1, 1]])

    def test_it_plays_on_as_it_did_before(self):
        for rows, pressed in games(60):
            straight = ask(cave(*rows), play(*pressed), shows(), keys())
            ticks = straight[1][2]
            for tick in range(ticks + 1):
                told = ask(cave(*rows), play(*pressed), back(tick), play(*pressed[tick:]), shows(), keys())
                self.assertEqual([told[3]] + told[4:], straight[1:])

    def test_there_is_room_for_ticks_again(self):
        full = [speed(1), frame(400), back(399)]
        self.assertEqual(ask(*full, frame(2), play(0, 0), frame(1), frame(1))[3:], [[-5], [-5], [0, 0, 400, 0, 0], [-5]])
        self.assertEqual(ask(*full, play(0), play(0))[3:], [[0, 0, 400, 0], [-5]])

    def test_kept_games_stay_as_they_were(self):
        before = [cave(*ROOM), play(1, 2, 3), frame(4), save(0)]
        wanted = ask(*before, load(0), shows(), keys(), seen(2), seen(3))[4:]
        for tick in range(4):
            told = ask(*before, back(tick), play(2), load(0), shows(), keys(), seen(2), seen(3))
            self.assertEqual(told[6:], wanted)

    def test_a_loaded_game_goes_back_and_what_is_kept_does_not(self):
        told = ask(cave(*ROOM), play(1, 1), save(0), load(0), back(0), play(2), load(0), keys(), shows(), back(1), keys())
        self.assertEqual(told[7], [2, 1, 1])
        self.assertEqual(picture(told[8]), ["  @ ", "    "])
        self.assertEqual(told[9:], [[0, 0, 1, 0], [1, 1]])

    def test_refused_all_is_as_it_was(self):
        before = [cave(*ROOM), hold(2), play(1, 1), frame(23), speed(7), save(0), frame(8)]
        self.assertEqual(probe(before, [back(6), back(400), back(4294967295)]), probe(before))


if __name__ == "__main__":
    unittest.main()
