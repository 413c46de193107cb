"""place, counts and seen: they tell of the game, and change nothing of it."""

import unittest

from tests.helper import ask, back, bytes_of, cave, counts, frame, hold, last, load, picture, place, play, probe, save
from tests.helper import seen, shows, speed

EVERY_SIGN = " :#oO*+@>v<^E"
WIDE = ["@:#o*", "E  >:"]
HIGH = ["@E", ": ", "# ", "o>", "*:"]
BEYOND = 4294967295


def number_of(sign):
    return EVERY_SIGN.index(sign)


class Place(unittest.TestCase):
    def test_each_of_the_numbers(self):
        self.assertEqual(ask(cave(EVERY_SIGN), *[place(across, 0) for across in range(13)])[1:],
                         [[number] for number in range(13)])

    def test_each_place_of_a_wide_and_of_a_high_cave(self):
        for rows in (WIDE, HIGH):
            asked = [(across, down) for down in range(len(rows)) for across in range(len(rows[0]))]
            told = ask(cave(*rows), *[place(across, down) for across, down in asked])
            self.assertEqual(told[1:], [[number_of(rows[down][across])] for across, down in asked])

    def test_corners(self):
        self.assertEqual(ask(cave(*WIDE), place(0, 0), place(4, 0), place(0, 1), place(4, 1))[1:],
                         [[7], [5], [12], [1]])
        self.assertEqual(ask(cave(*HIGH), place(0, 0), place(1, 0), place(0, 4), place(1, 4))[1:],
                         [[7], [12], [5], [1]])

    def test_corners_of_the_largest_cave(self):
        rows = ["@" + " " * 18 + "*"] + [" " * 20] * 12 + ["o" + " " * 18 + "E"]
        self.assertEqual(ask(cave(*rows), place(0, 0), place(19, 0), place(0, 13), place(19, 13), place(20, 13),
                             place(19, 14))[1:], [[7], [5], [3], [12], [-2], [-2]])

    def test_beyond(self):
        for rows in (WIDE, HIGH):
            wide, high = len(rows[0]), len(rows)
            outside = [(wide, 0), (wide, high - 1), (0, high), (wide - 1, high), (wide, high), (high, wide),
                       (BEYOND, 0), (0, BEYOND), (BEYOND, BEYOND), (wide + 1, 0), (0, high + 1)]
            told = ask(cave(*rows), *[place(across, down) for across, down in outside])
            self.assertEqual(told[1:], [[-2]] * len(outside))

    def test_in_the_first_cave(self):
        self.assertEqual(ask(place(1, 1), place(0, 0), place(2, 2), place(3, 0), place(0, 3)),
                         [[7], [2], [2], [-2], [-2]])

    def test_what_is_there_now(self):
        told = ask(cave("@o  "), place(1, 0), play(1), place(0, 0), place(1, 0), place(2, 0), play(0, 1), place(3, 0))
        self.assertEqual([told[1]] + told[3:6] + [told[7]], [[3], [0], [7], [3], [3]])
        told = ask(cave("O@", "  "), play(0), place(0, 0), place(0, 1))
        self.assertEqual(told[2:], [[0], [4]])

    def test_the_player_that_went_out_is_nowhere(self):
        self.assertEqual(ask(cave("@E"), play(1), place(0, 0), place(1, 0))[2:], [[0], [12]])

    def test_nothing_is_changed(self):
        before = [cave(*WIDE), hold(2), frame(23), save(0)]
        self.assertEqual(probe(before, [place(1, 1), place(5, 0), place(0, 2), place(BEYOND, 0)]), probe(before))


class Counts(unittest.TestCase):
    def test_thirteen_numbers(self):
        self.assertEqual(last(cave(EVERY_SIGN), counts()), [1] * 13)
        self.assertEqual(last(cave("@"), counts()), [0] * 7 + [1] + [0] * 5)

    def test_each_for_itself(self):
        for number, sign in enumerate(EVERY_SIGN):
            wanted = [0] * 13
            wanted[number] += 3
            wanted[7] += 1
            if sign == "@":
                wanted[7] = 1
            rows = ["@" + sign * 3] if sign != "@" else ["@"]
            self.assertEqual(last(cave(*rows), counts()), wanted, sign)

    def test_in_several_rows(self):
        self.assertEqual(last(cave("@oO*+", ">>v<^", "::# E"), counts()), [1, 2, 1, 1, 1, 1, 1, 1, 2, 1, 1, 1, 1])

    def test_wall_beyond_the_cave_is_not_counted(self):
        self.assertEqual(last(counts()), [0, 0, 8, 0, 0, 0, 0, 1, 0, 0, 0, 0, 0])
        self.assertEqual(last(cave("@#", " #"), counts())[:3], [1, 0, 2])

    def test_monsters_by_where_they_look(self):
        rows = ["@####", "####>", "#####"]
        for ticks, number in enumerate((8, 9, 10, 11, 8)):
            wanted = [0] * 4
            wanted[number - 8] = 1
            self.assertEqual(last(cave(*rows), play(*[0] * ticks), counts())[8:12], wanted, ticks)

    def test_what_lies_and_what_falls(self):
        rows = ["@o*", "#  ", "#  "]
        wanted = [(1, 0, 1, 0), (0, 1, 0, 1), (0, 1, 0, 1), (1, 0, 1, 0)]
        for ticks, fall in enumerate(wanted):
            self.assertEqual(tuple(last(cave(*rows), play(*[0] * ticks), counts())[3:7]), fall, ticks)

    def test_the_player_that_went_out_is_not_counted(self):
        self.assertEqual(last(cave("@E"), play(1), counts()), [1] + [0] * 11 + [1])

    def test_together_they_are_all_places(self):
        for rows in (WIDE, HIGH, ["@" + " " * 19] + [":" * 20] * 13):
            self.assertEqual(sum(last(cave(*rows), play(1, 2), counts())), len(rows) * len(rows[0]))

    def test_nothing_is_changed(self):
        before = [cave(*WIDE), hold(2), frame(23), save(0)]
        self.assertEqual(probe(before, [counts(), counts()]), probe(before))


class Seen(unittest.TestCase):
    def test_from_the_beginning_to_now(self):
        told = ask(cave("@*: "), play(1, 0, 1, 1), seen(0), seen(1), seen(2), seen(3), seen(4))
        self.assertEqual(told[2:], [
            [0, 0, 0, 1, 5] + bytes_of(["@*: "]),
            [0, 10, 1, 0, 5] + bytes_of([" @: "]),
            [0, 10, 2, 0, 5] + bytes_of([" @: "]),
            [0, 10, 3, 0, 5] + bytes_of(["  @ "]),
            [0, 10, 4, 0, 5] + bytes_of(["   @"])])

    def test_one_more_than_there_were(self):
        self.assertEqual(ask(seen(0), seen(1))[1], [-2])
        told = ask(cave("@   "), play(1, 1), seen(2), seen(3), seen(400), seen(4294967295))
        self.assertEqual(told[2][:4], [0, 0, 2, 0])
        self.assertEqual(told[3:], [[-2]] * 3)

    def test_the_first_cave(self):
        told = ask(seen(0), frame(30), seen(3), seen(0), seen(4))
        first = [12, 35, 35, 35, 10, 35, 64, 35, 10, 35, 35, 35, 10]
        self.assertEqual(told, [[0, 0, 0, 0] + first, [0, 0, 3, 0, 0], [0, 0, 3, 0] + first, [0, 0, 0, 0] + first,
                                [-2]])

    def test_gems_as_many_as_then(self):
        told = ask(cave("@**"), play(1, 1), seen(0), seen(1), seen(2))
        self.assertEqual([answer[1:4] for answer in told[2:]], [[0, 0, 2], [10, 1, 1], [20, 2, 0]])

    def test_the_text_s_last_byte_is_10(self):
        told = ask([0, 4, 64, 10, 32, 32], [0, 3, 64, 10, 32], seen(0), shows())
        self.assertEqual(told[2], [0, 0, 0, 0, 4, 64, 10, 32, 10])
        self.assertEqual(told[2][4:], told[3])

    def test_behind_the_tick_at_which_it_was_won(self):
        told = ask(cave("@E"), play(0, 1, 3), seen(1), seen(2), seen(3))
        self.assertEqual(told[2:], [[0, 0, 1, 0, 3] + bytes_of(["@E"]), [1, 100, 2, 0, 3] + bytes_of([" E"]), [-2]])

    def test_behind_the_tick_at_which_it_was_lost(self):
        told = ask(cave("o", " ", "@"), play(0, 0, 0), seen(0), seen(1), seen(2), seen(3))
        self.assertEqual(told[2:], [
            [0, 0, 0, 0, 6] + bytes_of(["o", " ", "@"]),
            [0, 0, 1, 0, 6] + bytes_of([" ", "O", "@"]),
            [2, 0, 2, 0, 6] + bytes_of([" ", " ", "o"]),
            [-2]])

    def test_as_it_was_told_then(self):
        calls = [cave("@ *o ", "  :  ", "o > E"), shows()]
        for key in (1, 1, 2, 0, 2, 3):
            calls += [play(key), shows()]
        told = ask(*calls, *[seen(tick) for tick in range(7)])
        stood = [[0, 0, 0, 1]] + told[2:14:2]
        self.assertEqual(told[14:], [stood[tick] + told[1 + 2 * tick] for tick in range(7)
                                     if tick <= stood[-1][2]] + [[-2]] * (6 - stood[-1][2]))

    def test_400_ticks(self):
        told = ask(cave("@ "), speed(1), hold(1), frame(400), seen(400), seen(401), seen(0), seen(1))
        self.assertEqual(told[4:], [[0, 0, 400, 0, 3, 32, 64, 10], [-2], [0, 0, 0, 0, 3, 64, 32, 10],
                                    [0, 0, 1, 0, 3, 32, 64, 10]])

    def test_of_this_game_not_of_another(self):
        told = ask(cave("@  "), play(1, 1), save(0), cave("@:"), seen(0), seen(1), load(0), seen(1))
        self.assertEqual(told[4:6] + told[7:], [[0, 0, 0, 0, 3, 64, 58, 10], [-2], [0, 0, 1, 0, 4, 32, 64, 32, 10]])

    def test_behind_back(self):
        told = ask(cave("@  ", "   "), play(1, 1), back(1), seen(2), play(2), seen(2))
        self.assertEqual(told[3], [-2])
        self.assertEqual(picture(told[5][4:]), ["   ", " @ "])

    def test_nothing_is_changed(self):
        before = [cave(*WIDE), hold(2), frame(23), speed(7), save(0), frame(8)]
        for tick in range(5):
            self.assertEqual(probe(before, [seen(tick)]), probe(before))
        over = [cave("@E"), hold(1), frame(13)]
        self.assertEqual(probe(over, [seen(0), seen(1), seen(2)]), probe(over))


if __name__ == "__main__":
    unittest.main()
