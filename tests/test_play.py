import unittest

from tests.helper import after, ask, back, cave, frame, hold, keys, last, load, pressing, picture, play, probe, save
from tests.helper import shows, speed, standing

ROOM = ["     ", "  @  ", "     "]
FULL = [speed(1), frame(400)]
NEARLY_FULL = [speed(1), frame(300)]


class Keys(unittest.TestCase):
    def test_none(self):
        self.assertEqual(last(keys()), [0])
        self.assertEqual(last(cave("@"), keys()), [0])
        self.assertEqual(last(hold(3), frame(9), keys()), [0])

    def test_from_frames(self):
        told = ask(cave(*ROOM), hold(1), frame(20), hold(4), frame(5), keys(), frame(5), keys(), hold(0), frame(10), keys())
        self.assertEqual([told[5], told[7], told[10]], [[2, 1, 1], [3, 1, 1, 4], [4, 1, 1, 4, 0]])

    def test_what_is_held_down_at_the_tick_counts(self):
        self.assertEqual(last(cave(*ROOM), hold(1), frame(9), hold(2), frame(1), keys()), [1, 2])

    def test_from_play(self):
        self.assertEqual(last(cave(*ROOM), play(0, 1, 2, 3, 4), keys()), [5, 0, 1, 2, 3, 4])

    def test_from_both_in_order(self):
        self.assertEqual(last(cave(*ROOM), play(3, 4), hold(2), frame(20), play(1), frame(10), keys()),
                         [6, 3, 4, 2, 2, 1, 2])

    def test_keys_that_did_nothing_are_recorded_too(self):
        self.assertEqual(last(play(1, 2, 3, 4, 0), keys()), [5, 1, 2, 3, 4, 0])

    def test_none_that_was_pressed_when_it_was_over(self):
        self.assertEqual(last(cave("@ E"), play(1, 1, 2, 3), keys()), [2, 1, 1])
        self.assertEqual(last(cave("@E"), play(1), play(2, 3), hold(4), frame(50), keys()), [1, 1])
        self.assertEqual(last(cave("@>"), hold(3), frame(50), keys()), [1, 3])

    def test_none_of_refused_calls(self):
        self.assertEqual(last(play(1), play(1, 5), frame(1001), hold(5), keys()), [1, 1])
        self.assertEqual(last(*FULL, play(1), frame(1), keys()), [400] + [0] * 400)

    def test_400_of_them(self):
        self.assertEqual(last(speed(1), hold(4), frame(350), play(*[2] * 50), keys()), [400] + [4] * 350 + [2] * 50)

    def test_a_new_cave_has_none(self):
        self.assertEqual(last(play(1, 2), cave("@"), keys()), [0])

    def test_a_loaded_game_has_its_own(self):
        told = ask(play(1, 2), save(0), play(3), load(0), keys(), play(4), keys(), load(0), keys())
        self.assertEqual([told[4], told[6], told[8]], [[2, 1, 2], [3, 1, 2, 4], [2, 1, 2]])

    def test_nothing_is_changed(self):
        before = [cave(*ROOM), hold(2), frame(13), save(0)]
        self.assertEqual(probe(before, [keys(), keys()]), probe(before))


class Play(unittest.TestCase):
    def test_each_key_is_its_way(self):
        goals = {0: ROOM, 1: ["     ", "   @ ", "     "], 2: ["     ", "     ", "  @  "],
                 3: ["     ", " @   ", "     "], 4: ["  @  ", "     ", "     "]}
        for key, goal in goals.items():
            told = ask(cave(*ROOM), play(key), shows())
            self.assertEqual(told[1], [0, 0, 1, 0])
            self.assertEqual(picture(told[2]), goal)

    def test_in_order(self):
        told = ask(cave("@:*", "#:#", "#:E"), play(1, 1), shows(), play(3, 2, 2, 1), shows())
        self.assertEqual(told[1], [0, 10, 2, 0])
        self.assertEqual(picture(told[2]), ["  @", "#:#", "#:E"])
        self.assertEqual(told[3], [1, 110, 6, 0])
        self.assertEqual(picture(told[4]), ["   ", "# #", "# E"])

    def test_it_is_as_if_each_were_held_down_for_a_tick(self):
        rows = ["@ *o ", "  :o ", "o > E"]
        pressed = [1, 1, 2, 0, 3, 4, 1]
        told = ask(cave(*rows), play(*pressed), shows())
        self.assertEqual(told[1], standing(rows, pressed))
        self.assertEqual(picture(told[2]), after(rows, pressed))
        self.assertEqual(last(*pressing(rows, pressed), keys()), last(cave(*rows), play(*pressed), keys()))

    def test_nothing_at_all(self):
        before = [cave(*ROOM), hold(2), frame(23), save(0)]
        self.assertEqual(last(*before, play()), [0, 0, 2, 0])
        self.assertEqual(probe(before, [play()]), probe(before))
        self.assertEqual(last(*FULL, play()), [0, 0, 400, 0])

    def test_100_and_101_of_them(self):
        self.assertEqual(last(cave(*ROOM), play(*[1] * 100)), [0, 0, 100, 0])
        for count in (101, 102, 119, 120):
            self.assertEqual(last(cave(*ROOM), play(*[1] * count)), [-1])

    def test_4_and_5(self):
        self.assertEqual(last(play(4)), [0, 0, 1, 0])
        for key in (5, 6, 255, 4294967295):
            self.assertEqual(last(play(key)), [-1])
            self.assertEqual(last(play(0, 1, key)), [-1])
            self.assertEqual(last(play(key, 0)), [-1])

    def test_exactly_400_and_one_more(self):
        self.assertEqual(last(*NEARLY_FULL, play(*[0] * 100)), [0, 0, 400, 0])
        self.assertEqual(ask(*NEARLY_FULL, play(0), play(*[0] * 100), play(*[0] * 99), play(0))[3:],
                         [[-5], [0, 0, 400, 0], [-5]])
        self.assertEqual(last(*FULL, play(0)), [-5])

    def test_400_by_play_alone(self):
        told = ask(*[play(*[3] * 100)] * 4, play(3), keys())
        self.assertEqual(told[3:], [[0, 0, 400, 0], [-5], [400] + [3] * 400])

    def test_a_frame_counts_what_was_played(self):
        told = ask(*[play(*[0] * 100)] * 4, frame(9), frame(1), frame(0))
        self.assertEqual(told[4:], [[0, 0, 400, 0, 9], [-5], [0, 0, 400, 0, 9]])

    def test_though_it_is_over_sooner(self):
        start = [cave("@E"), speed(1), frame(399)]
        self.assertEqual(ask(*start, play(1, 0), play(1), play(1, 0))[3:], [[-5], [1, 100, 400, 0], [1, 100, 400, 0]])
        lost = [cave("o@ "), speed(1), frame(350)]
        self.assertEqual(last(*lost, play(*[0] * 51)), [-5])
        self.assertEqual(last(*lost, play(*[0] * 50)), [0, 0, 400, 0])

    def test_over_sooner_no_more_are_recorded(self):
        told = ask(cave("@ E"), play(1, 1, 3, 3), shows(), keys())
        self.assertEqual(told[1], [1, 100, 2, 0])
        self.assertEqual(picture(told[2]), ["  E"])
        self.assertEqual(told[3], [2, 1, 1])

    def test_a_game_that_is_over_already(self):
        won = [cave("@E"), play(1)]
        self.assertEqual(last(*won, play(1, 2, 3)), [1, 100, 1, 0])
        self.assertEqual(probe(won, [play(1, 2, 3), play(*[4] * 100)]), probe(won))
        lost = [cave("O", "@"), play(0)]
        self.assertEqual(last(*lost, play(1, 2, 3)), [2, 0, 1, 0])
        self.assertEqual(probe(lost, [play(1, 2, 3)]), probe(lost))

    def test_over_it_is_never_too_many(self):
        told = ask(cave("@E"), speed(1), frame(399), play(1), play(*[0] * 100), keys())
        self.assertEqual(told[4], [1, 100, 400, 0])
        self.assertEqual(told[5], [400] + [0] * 399 + [1])

    def test_over_it_is_still_refused(self):
        for refused in (play(5), play(*[0] * 101)):
            self.assertEqual(last(cave("@E"), play(1), refused), [-1])

    def test_what_is_held_down_and_left_over_stay(self):
        told = ask(cave(*ROOM), hold(1), frame(7), play(3, 3), frame(0), frame(3), keys())
        self.assertEqual(told[3:], [[0, 0, 2, 0], [0, 0, 2, 0, 7], [0, 0, 3, 0, 0], [3, 3, 3, 1]])

    def test_how_long_a_tick_takes_stays(self):
        self.assertEqual(last(cave(*ROOM), speed(4), play(1, 1), frame(9)), [0, 0, 4, 0, 1])

    def test_which_refusal_is_told_where_there_are_both(self):
        self.assertEqual(last(*FULL, play(5)), [-1])
        self.assertEqual(last(*FULL, play(*[0] * 101)), [-1])
        self.assertEqual(last(*FULL, play(*[5] * 101)), [-1])
        self.assertEqual(last(*NEARLY_FULL, play(0), play(*[0] * 99 + [5])), [-1])

    def test_refused_all_is_as_it_was(self):
        before = [cave(*ROOM), hold(2), frame(23), speed(7), save(0), frame(8)]
        for refused in (play(5), play(1, 1, 5), play(*[1] * 101)):
            self.assertEqual(probe(before, [refused]), probe(before))
        before = [cave(*ROOM), speed(2), hold(1), frame(801), save(9)]
        self.assertEqual(ask(*before, play(3))[5], [-5])
        self.assertEqual(probe(before, [play(3), play(*[3] * 100)]), probe(before))

    def test_kept_games_stay_as_they_were(self):
        told = ask(cave(*ROOM), play(1), save(0), play(2, 2), load(0), shows(), keys(), back(0), shows())
        self.assertEqual(told[4], [0, 0, 1, 0, 0])
        self.assertEqual(picture(told[5]), ["     ", "   @ ", "     "])
        self.assertEqual(told[6], [1, 1])
        self.assertEqual(picture(told[8]), ROOM)


if __name__ == "__main__":
    unittest.main()
