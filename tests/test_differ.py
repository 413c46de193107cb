import unittest

from stonecave.cave import are_same_caves, read_cave
from stonecave.tick import LOST, WON, Standing, stand_alike
from tests.helper import ask, back, bytes_of, cave, differ, frame, hold, last, load, play, probe, save, speed

ROOM = ["     ", "  @  ", "     "]


def parting(rows, pressed, other_rows, other_pressed):
    """What differ answers, asked of the one and of the other."""
    one, other = [cave(*rows), play(*pressed)], [cave(*other_rows), play(*other_pressed)]
    told = [last(*one, save(0), *other, differ(0)), last(*other, save(0), *one, differ(0))]
    if told[0] != told[1]:
        raise AssertionError("asked the other way round it's told otherwise: %r" % told)
    return told[0]


def parting_in(rows, pressed, other_pressed):
    return parting(rows, pressed, rows, other_pressed)


class OtherCaves(unittest.TestCase):
    def test_what_is_at_a_place(self):
        self.assertEqual(parting(["@ "], [], ["@:"], []), [0])
        self.assertEqual(parting(["@o"], [], ["@O"], []), [0])
        self.assertEqual(parting(["@#>"], [], ["@#v"], []), [0])
        self.assertEqual(parting(["@ "], [], [" @"], []), [0])

    def test_how_long_a_row_and_how_many_rows(self):
        self.assertEqual(parting(["@ "], [], ["@  "], []), [0])
        self.assertEqual(parting(["@ "], [], ["@ ", "  "], []), [0])
        self.assertEqual(parting(["@  ", "   "], [], ["@ ", "  ", "  "], []), [0])
        self.assertEqual(parting(["@"], [], ["@#"], []), [0])
        self.assertEqual(parting(["@"], [], ["@", "#"], []), [0])

    def test_sizes_alone(self):
        # Row behind row, with the wall beyond the cave round them, both are the same places.
        self.assertEqual(parting(["@##", "###"], [], ["#@", "##", "##"], []), [0])
        wide, high = read_cave(bytes_of(["@##", "###"])), read_cave(bytes_of(["#@", "##", "##"]))
        self.assertEqual(wide.places, high.places)
        self.assertFalse(are_same_caves(wide, high))

    def test_though_they_come_to_be_alike(self):
        self.assertEqual(parting(["@  "], [1, 1], [" @ "], [1, 0]), [0])
        self.assertEqual(parting(["@ "], [1], [" @"], [0]), [0])
        self.assertEqual(parting(["@:"], [1], ["@ "], [1]), [0])

    def test_behind_several_ticks(self):
        self.assertEqual(parting(["@ "], [1, 3, 1], ["@:"], [1, 3, 1, 0]), [0])


class OtherKeys(unittest.TestCase):
    def test_the_first_tick_at_which_they_stand_otherwise(self):
        self.assertEqual(parting_in(ROOM, [1], [2]), [1])
        self.assertEqual(parting_in(ROOM, [1, 0], [1, 2]), [2])
        self.assertEqual(parting_in(ROOM, [1, 2, 3, 4, 0], [1, 2, 3, 4, 1]), [5])
        self.assertEqual(parting_in(ROOM, [0] * 100, [0] * 99 + [1]), [100])

    def test_behind_400_ticks(self):
        start = [cave(*ROOM), speed(1), frame(399)]
        self.assertEqual(last(*start, play(1), save(0), back(399), play(2), differ(0)), [400])
        self.assertEqual(last(*start, play(1), save(0), back(399), play(1), differ(0)), [-6])

    def test_ticks_that_only_one_has_do_not_count(self):
        self.assertEqual(parting_in(ROOM, [1, 2, 3], [1, 4]), [2])

    def test_where_they_differ_in_points(self):
        self.assertEqual(parting_in(["@* "], [0, 1], [0, 0]), [2])
        self.assertEqual(parting_in(["O#@  ", ">####"], [1], [0]), [1])

    def test_where_they_differ_in_won(self):
        self.assertEqual(parting_in(["@E"], [0, 1], [0, 0]), [2])
        self.assertEqual(parting_in(["@E"], [0, 1], [0, 0, 1]), [2])

    def test_where_they_differ_in_lost(self):
        self.assertEqual(last(cave("@ >", "###"), play(0, 1))[:3], [2, 0, 2])
        self.assertEqual(parting_in(["@ >", "###"], [0, 1], [0, 0]), [2])
        self.assertEqual(parting_in(["@ >", "###"], [0, 1, 0], [0, 0, 0, 0]), [2])

    def test_different_keys_that_lead_to_the_same(self):
        self.assertEqual(parting_in(["@#", "##"], [1, 2, 3], [4, 0, 1]), [-6])
        self.assertEqual(parting_in(["@ #", "###"], [1, 2, 3], [1, 1, 3]), [-6])
        self.assertEqual(parting_in(["@ #", "###"], [1, 2, 3], [1, 1, 0]), [3])

    def test_alike_later(self):
        self.assertEqual(parting_in(ROOM, [1, 3], [3, 1]), [1])
        self.assertEqual(parting_in(ROOM, [0, 1, 3, 0, 0], [0, 2, 4, 0, 0]), [2])
        self.assertEqual(parting_in(ROOM, [1, 2], [2, 1]), [1])


class Alike(unittest.TestCase):
    def test_the_same_game(self):
        self.assertEqual(ask(save(0), differ(0)), [[0], [-6]])
        self.assertEqual(last(cave(*ROOM), play(1, 2), save(0), differ(0)), [-6])

    def test_where_one_is_longer(self):
        self.assertEqual(parting_in(ROOM, [], [1, 2, 3]), [-6])
        self.assertEqual(parting_in(ROOM, [1, 2], [1, 2, 3]), [-6])

    def test_where_one_is_over(self):
        self.assertEqual(parting_in(["@E"], [1], [1, 1]), [-6])
        self.assertEqual(parting_in(["@E"], [0], [0, 1]), [-6])

    def test_behind_back(self):
        self.assertEqual(ask(cave(*ROOM), play(1, 2), save(0), back(1), differ(0), play(3), differ(0))[4:],
                         [[-6], [0, 0, 2, 0], [2]])

    def test_the_same_cave_read_again(self):
        self.assertEqual(last(cave(*ROOM), save(0), cave(*ROOM), differ(0)), [-6])
        self.assertEqual(last([0, 3, 64, 32, 10], save(0), [0, 2, 64, 32], differ(0)), [-6])

    def test_time_and_what_is_held_down_play_no_part(self):
        self.assertEqual(last(cave(*ROOM), save(0), frame(5), hold(1), speed(3), differ(0)), [-6])
        self.assertEqual(last(cave(*ROOM), hold(1), frame(20), save(0), cave(*ROOM), play(1, 1), differ(0)), [-6])


class Where(unittest.TestCase):
    def test_nothing_is_kept_there(self):
        self.assertEqual(ask(*[differ(where) for where in range(10)]), [[-2]] * 10)
        self.assertEqual(ask(save(3), differ(2), differ(4), differ(3))[1:], [[-2], [-2], [-6]])

    def test_above_9(self):
        for where in (10, 11, 4294967295):
            self.assertEqual(last(save(9), save(where), differ(where)), [-2])

    def test_each_where_is_its_own(self):
        told = ask(cave(*ROOM), save(0), play(1), save(1), play(1), save(9), back(0), play(2), differ(0), differ(1),
                   differ(9), save(0), load(9), differ(0), differ(1))
        self.assertEqual(told[8:11], [[-6], [1], [1]])
        self.assertEqual(told[13:], [[1], [-6]])

    def test_the_last_one_kept_there(self):
        self.assertEqual(ask(cave("@ "), save(0), cave("@:"), differ(0), save(0), differ(0))[3::2], [[0], [-6]])


class Changes(unittest.TestCase):
    def test_nothing_is_changed(self):
        before = [cave(*ROOM), play(1, 2), frame(4), save(0), back(1), hold(3), speed(7), frame(12), save(1)]
        told = ask(*before, differ(0), differ(1), differ(2))
        self.assertEqual(told[-3:], [[2], [-6], [-2]])
        for where in (0, 1, 2, 10, 4294967295):
            self.assertEqual(probe(before, [differ(where)]), probe(before))


class StandAlike(unittest.TestCase):
    """Points or won and lost alone don't part two games that were alike till then, so they're asked by themselves."""

    def setUp(self):
        self.one = Standing(read_cave(bytes_of(["@ "])))
        self.other = Standing(read_cave(bytes_of(["@ "])))

    def test_alike(self):
        self.assertTrue(stand_alike(self.one, self.other))

    def test_points(self):
        self.other.points = 10
        self.assertFalse(stand_alike(self.one, self.other))

    def test_won_or_lost(self):
        for outcome in (WON, LOST):
            self.other.outcome = outcome
            self.assertFalse(stand_alike(self.one, self.other))

    def test_cave(self):
        self.other = Standing(read_cave(bytes_of([" @"])))
        self.assertFalse(stand_alike(self.one, self.other))


if __name__ == "__main__":
    unittest.main()
