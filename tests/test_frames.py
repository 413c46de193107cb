import unittest

from tests.helper import ask, cave, frame, hold, last, picture, save, load, shows, speed

WIDE = "@" + " " * 19


class Hold(unittest.TestCase):
    def test_0_to_4_are_taken(self):
        for key in range(5):
            self.assertEqual(last(hold(key)), [0], key)

    def test_above_4_is_refused(self):
        for key in (5, 6, 255, 4294967295):
            self.assertEqual(last(hold(key)), [-1], key)

    def test_each_key_is_its_way(self):
        around = ["   ", " @ ", "   "]
        goals = {0: ["   ", " @ ", "   "], 1: ["   ", "  @", "   "], 2: ["   ", "   ", " @ "],
                 3: ["   ", "@  ", "   "], 4: [" @ ", "   ", "   "]}
        for key, goal in goals.items():
            told = ask(cave(*around), hold(key), frame(10), shows())
            self.assertEqual(picture(told[3]), goal, key)

    def test_it_stays_held_down(self):
        told = ask(cave(WIDE), hold(1), frame(20), frame(30), shows())
        self.assertEqual(picture(told[4]), [" " * 5 + "@" + " " * 14])

    def test_the_last_one_held_is_pressed(self):
        told = ask(cave("@  ", "   "), hold(1), hold(2), frame(10), hold(0), frame(10), shows())
        self.assertEqual(picture(told[6]), ["   ", "@  "])

    def test_refused_it_stays_as_it_was(self):
        told = ask(cave(WIDE), hold(1), hold(5), frame(10), shows())
        self.assertEqual(told[2], [-1])
        self.assertEqual(picture(told[4]), [" @" + " " * 18])

    def test_it_is_no_tick(self):
        told = ask(cave("@ "), hold(1), shows(), frame(0))
        self.assertEqual(picture(told[2]), ["@ "])
        self.assertEqual(told[3], [0, 0, 0, 0, 0])


class Frame(unittest.TestCase):
    def test_a_tick_takes_10_at_first(self):
        told = ask(frame(9), frame(1), frame(10), frame(25))
        self.assertEqual(told, [[0, 0, 0, 0, 9], [0, 0, 1, 0, 0], [0, 0, 2, 0, 0], [0, 0, 4, 0, 5]])

    def test_what_is_left_over_stays(self):
        told = ask(*[frame(7)] * 10)
        self.assertEqual([answer[2] for answer in told], [0, 1, 2, 2, 3, 4, 4, 5, 6, 7])
        self.assertEqual([answer[4] for answer in told], [7, 4, 1, 8, 5, 2, 9, 6, 3, 0])

    def test_0_and_1000_and_1001(self):
        self.assertEqual(last(frame(0)), [0, 0, 0, 0, 0])
        self.assertEqual(last(frame(1000)), [0, 0, 100, 0, 0])
        self.assertEqual(last(frame(1001)), [-1])
        self.assertEqual(last(frame(4294967295)), [-1])

    def test_1001_is_refused_first(self):
        # It would be more than 400 ticks, too.
        self.assertEqual(last(speed(1), frame(1001)), [-1])
        self.assertEqual(last(cave("@E"), hold(1), frame(10), frame(1001)), [-1])

    def test_refused_all_is_as_it_was(self):
        told = ask(cave("@  "), hold(1), frame(3), frame(1001), frame(7), shows())
        self.assertEqual(told[3], [-1])
        self.assertEqual(told[4], [0, 0, 1, 0, 0])
        self.assertEqual(picture(told[5]), [" @ "])

    def test_it_answers_points_and_gems(self):
        told = ask(cave("@**"), hold(1), frame(10), frame(13))
        self.assertEqual(told[2:], [[0, 10, 1, 1, 0], [0, 20, 2, 0, 3]])


class FourHundred(unittest.TestCase):
    def test_exactly_400(self):
        self.assertEqual(last(speed(1), frame(400)), [0, 0, 400, 0, 0])

    def test_one_more(self):
        self.assertEqual(last(speed(1), frame(401)), [-5])
        told = ask(speed(1), frame(400), frame(1), frame(0))
        self.assertEqual(told[2:], [[-5], [0, 0, 400, 0, 0]])

    def test_in_several_frames(self):
        told = ask(speed(2), frame(500), frame(301), frame(1), frame(1), frame(2))
        self.assertEqual(told[1:], [[0, 0, 250, 0, 0], [0, 0, 400, 0, 1], [-5], [-5], [-5]])

    def test_what_is_left_over_counts(self):
        told = ask(speed(2), frame(1), frame(799), frame(1), frame(0))
        self.assertEqual(told[1:4], [[0, 0, 0, 0, 1], [0, 0, 400, 0, 0], [0, 0, 400, 0, 1]])
        self.assertEqual(told[4], [0, 0, 400, 0, 1])
        self.assertEqual(last(speed(2), frame(1), frame(801)), [-5])
        self.assertEqual(last(speed(2), frame(0), frame(801)), [0, 0, 400, 0, 1])

    def test_refused_all_is_as_it_was(self):
        told = ask(cave(WIDE), speed(2), hold(1), frame(1), frame(802), shows(), frame(1), shows())
        self.assertEqual(told[4], [-5])
        self.assertEqual(picture(told[5]), [WIDE])
        self.assertEqual(told[6], [0, 0, 1, 0, 0])
        self.assertEqual(picture(told[7]), [" @" + " " * 18])

    def test_though_it_may_be_over_sooner(self):
        told = ask(cave("@ E"), speed(1), hold(1), frame(401), frame(400))
        self.assertEqual(told[3:], [[-5], [1, 100, 2, 0, 0]])

    def test_when_it_is_over_any_time_may_come(self):
        told = ask(cave("@E"), speed(1), hold(1), frame(400), frame(401), frame(1000))
        self.assertEqual(told[3:], [[1, 100, 1, 0, 0]] * 3)

    def test_lost_any_time_may_come(self):
        told = ask(cave("@>"), speed(1), frame(1), frame(1000))
        self.assertEqual(told[2:], [[2, 0, 1, 0, 0]] * 2)


class OverSooner(unittest.TestCase):
    def test_no_more_ticks_are_recorded(self):
        told = ask(cave("@  E"), hold(1), frame(95), shows(), save(0))
        self.assertEqual(told[2], [1, 100, 3, 0, 5])
        self.assertEqual(picture(told[3]), ["   E"])
        self.assertEqual(told[4], [3])

    def test_ticks_do_nothing_when_it_is_over(self):
        told = ask(cave("@E", "#o", "# ", "# ", "# "), hold(1), frame(10), shows(), frame(100), shows())
        # Won in the first tick: the stone behind has had no turn and gets none.
        self.assertEqual(told[2], [1, 100, 1, 0, 0])
        self.assertEqual(picture(told[3]), [" E", "#o", "# ", "# ", "# "])
        self.assertEqual(told[4], [1, 100, 1, 0, 0])
        self.assertEqual(told[5], told[3])

    def test_ticks_do_nothing_when_it_is_lost(self):
        told = ask(cave("O ", "@ ", " o", "  "), frame(100), shows(), hold(1), frame(50), shows())
        self.assertEqual(told[1], [2, 0, 1, 0, 0])
        self.assertEqual(picture(told[2]), ["  ", "o ", " o", "  "])
        self.assertEqual(told[4], [2, 0, 1, 0, 0])
        self.assertEqual(told[5], told[2])

    def test_time_goes_on_when_it_is_over(self):
        told = ask(cave("@E"), hold(1), frame(14), frame(3), frame(4), frame(0))
        self.assertEqual([answer[4] for answer in told[2:]], [4, 7, 1, 1])

    def test_time_cut_otherwise_leaves_as_much(self):
        self.assertEqual(last(cave("@E"), hold(1), frame(37)), [1, 100, 1, 0, 7])
        self.assertEqual(last(cave("@E"), hold(1), frame(12), frame(12), frame(13)), [1, 100, 1, 0, 7])


class Speed(unittest.TestCase):
    def test_1_to_100(self):
        for parts in (1, 2, 10, 99, 100):
            self.assertEqual(last(speed(parts)), [0], parts)
        for parts in (0, 101, 4294967295):
            self.assertEqual(last(speed(parts)), [-1], parts)

    def test_a_tick_takes_so_many(self):
        self.assertEqual(last(speed(1), frame(7)), [0, 0, 7, 0, 0])
        self.assertEqual(last(speed(3), frame(7)), [0, 0, 2, 0, 1])
        self.assertEqual(last(speed(100), frame(199)), [0, 0, 1, 0, 99])

    def test_a_shorter_tick_leaves_less(self):
        told = ask(frame(9), speed(5), frame(0), frame(1))
        self.assertEqual(told[1:], [[0], [0, 0, 0, 0, 4], [0, 0, 1, 0, 0]])
        self.assertEqual(last(frame(9), speed(9), frame(0)), [0, 0, 0, 0, 8])
        self.assertEqual(last(frame(9), speed(1), frame(0)), [0, 0, 0, 0, 0])

    def test_what_fits_stays(self):
        self.assertEqual(last(frame(4), speed(5), frame(0)), [0, 0, 0, 0, 4])
        self.assertEqual(last(frame(3), speed(5), frame(0)), [0, 0, 0, 0, 3])
        self.assertEqual(last(frame(9), speed(10), frame(0)), [0, 0, 0, 0, 9])
        self.assertEqual(last(frame(9), speed(100), frame(0)), [0, 0, 0, 0, 9])

    def test_what_was_cut_does_not_come_back(self):
        self.assertEqual(last(frame(9), speed(5), speed(10), frame(0)), [0, 0, 0, 0, 4])

    def test_refused_all_is_as_it_was(self):
        for parts in (0, 101):
            told = ask(frame(9), speed(parts), frame(0), frame(1))
            self.assertEqual(told[1:], [[-1], [0, 0, 0, 0, 9], [0, 0, 1, 0, 0]])


class Keeping(unittest.TestCase):
    def test_save_answers_how_many_ticks(self):
        self.assertEqual(ask(save(0), frame(35), save(0), save(9)), [[0], [0, 0, 3, 0, 5], [3], [3]])

    def test_places_0_to_9(self):
        for where in range(10):
            told = ask(frame(12), save(where), frame(20), load(where))
            self.assertEqual(told[1:], [[1], [0, 0, 3, 0, 2], [0, 0, 1, 0, 2]], where)

    def test_above_9_is_refused(self):
        for where in (10, 11, 4294967295):
            self.assertEqual(ask(save(where), load(where)), [[-1], [-2]], where)

    def test_nothing_is_kept_there(self):
        self.assertEqual(last(load(0)), [-2])
        self.assertEqual(last(save(1), load(0)), [-2])
        self.assertEqual(last(save(1), load(2)), [-2])
        self.assertEqual(last(load(10)), [-2])
        self.assertEqual(last(load(4294967295)), [-2])

    def test_refused_all_is_as_it_was(self):
        told = ask(cave("@  "), hold(1), frame(13), save(0), save(10), load(1), frame(7), shows(), load(0))
        self.assertEqual(told[4:7], [[-1], [-2], [0, 0, 2, 0, 0]])
        self.assertEqual(picture(told[7]), ["  @"])
        self.assertEqual(told[8], [0, 0, 1, 0, 3])

    def test_kept_played_on_and_loaded(self):
        told = ask(cave("@*:O", "   o", "#  #"), hold(1), frame(14), save(5), shows(),
                   frame(30), hold(2), speed(3), shows(), load(5), shows(), frame(16), shows())
        self.assertEqual(told[2], [0, 10, 1, 0, 4])
        self.assertEqual(told[9], [0, 10, 1, 0, 4])
        self.assertEqual(told[10], told[4])
        self.assertNotEqual(told[8], told[4])
        # How long a tick takes and what's held down are the kept game's, too.
        self.assertEqual(told[11], [0, 10, 3, 0, 0])
        self.assertEqual(picture(told[12])[0][1:3], " @")

    def test_it_goes_on_as_if_it_had_never_been_kept(self):
        start = [cave("@:*o ", " > o ", "  :  "), hold(1), speed(7), frame(20)]
        behind = [frame(25), hold(2), frame(9), shows()]
        straight = ask(*start, *behind)[-4:]
        kept = ask(*start, save(0), frame(50), hold(4), cave("@"), speed(1), load(0), *behind)[-4:]
        self.assertEqual(kept, straight)

    def test_what_is_kept_stays_when_it_is_loaded_and_played_on(self):
        told = ask(cave("@   "), save(0), load(0), hold(1), frame(20), speed(5), load(0), shows(), frame(10), shows())
        self.assertEqual(told[6], [0, 0, 0, 0, 0])
        self.assertEqual(picture(told[7]), ["@   "])
        self.assertEqual(told[8], [0, 0, 1, 0, 0])
        self.assertEqual(picture(told[9]), ["@   "])

    def test_the_last_one_kept_there_counts(self):
        told = ask(save(0), frame(10), save(0), frame(10), save(1), load(0), load(1))
        self.assertEqual(told[5:], [[0, 0, 1, 0, 0], [0, 0, 2, 0, 0]])

    def test_a_loaded_game_counts_its_own_ticks(self):
        told = ask(speed(1), frame(300), save(0), frame(100), load(0), frame(101), frame(100), frame(1))
        self.assertEqual(told[4:], [[0, 0, 300, 0, 0], [-5], [0, 0, 400, 0, 0], [-5]])

    def test_a_game_that_is_over_is_kept_so(self):
        told = ask(cave("@E"), hold(1), frame(23), save(0), cave("@"), load(0), frame(10))
        self.assertEqual(told[3], [1])
        self.assertEqual(told[5:], [[1, 100, 1, 0, 3], [1, 100, 1, 0, 3]])

    def test_a_game_that_was_kept_is_not_over_when_the_other_is(self):
        told = ask(cave("@E*"), save(0), cave("@E"), hold(1), frame(10), load(0), frame(10))
        self.assertEqual(told[5:], [[0, 0, 0, 1, 0], [0, 0, 1, 1, 0]])


if __name__ == "__main__":
    unittest.main()
