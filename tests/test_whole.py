"""What the document promises over the whole program, all calls taken together."""

import unittest

from stonecave.game import answers
from tests.helper import GEMS, LOOKS, STONES, ask, back, bytes_of, cave, cave_bytes, count, counts, differ, frame, games
from tests.helper import hold, keys, last, load, picture, place, play, probe, save, seen, shows, speed

EVERY_SIGN = " :#oO*+@>v<^E"
ROOM = ["@* o ", " :   ", "  #  "]


class OneGame(unittest.TestCase):
    def test_the_same_time_cut_otherwise(self):
        for rows, pressed in games(60):
            whole, cut = [cave(*rows)], [cave(*rows)]
            for key in pressed[:6]:
                whole += [hold(key), frame(37)]
                cut += [hold(key), frame(9), frame(0), frame(1), frame(27)]
            behind = [shows(), keys(), frame(0)]
            self.assertEqual(ask(*cut, *behind)[-3:], ask(*whole, *behind)[-3:])

    def test_frames_of_one_part(self):
        told = ask(cave(*ROOM), hold(1), *[frame(1)] * 35, shows(), keys(), frame(0))
        self.assertEqual(told[-3:], ask(cave(*ROOM), hold(1), frame(35), shows(), keys(), frame(0))[-3:])

    def test_back_to_0_and_play_what_keys_told(self):
        for rows, pressed in games(100):
            lived = [cave(*rows), hold(pressed[0]), frame(34), play(*pressed[:5]), hold(pressed[5]), frame(29)]
            told = ask(*lived, shows(), keys(), play())
            replayed = ask(*lived, back(0), play(*told[-2][1:]), shows(), keys(), play())
            self.assertEqual(replayed[-3:], told[-3:])
            anew = ask(cave(*rows), play(*told[-2][1:]), shows(), keys(), play())
            self.assertEqual(anew[-3:], told[-3:])

    def test_400_ticks_played_again(self):
        for rows, pressed in games(20):
            lived = [cave(*rows), speed(3)]
            for key in pressed[:10]:
                lived += [hold(key), frame(120)]
            told = ask(*lived, shows(), keys(), play())
            recorded = told[-2][1:]
            again = [play(*recorded[begin:begin + 100]) for begin in range(0, 400, 100)]
            self.assertEqual(ask(*lived, back(0), *again, shows(), keys(), play())[-3:], told[-3:])

    def test_kept_played_on_and_loaded(self):
        for rows, pressed in games(60):
            lived = [cave(*rows), speed(7), hold(pressed[0]), frame(33), play(*pressed[1:3]), save(9)]
            elsewhere = [play(*pressed), hold(3), speed(2), back(1), frame(11), load(9)]
            self.assertEqual(probe(lived, elsewhere), probe(lived))

    def test_kept_and_loaded_it_differs_in_nothing(self):
        for rows, pressed in games(60):
            told = ask(cave(*rows), play(*pressed), save(0), play(*pressed), differ(0), load(0), differ(0))
            self.assertEqual([told[4], told[6]], [[-6], [-6]])

    def test_seen_is_where_back_leads(self):
        for rows, pressed in games(40):
            ticks = last(cave(*rows), play(*pressed))[2]
            for tick in range(ticks + 1):
                told = ask(cave(*rows), play(*pressed), seen(tick), back(tick), shows())
                self.assertEqual(told[2], told[3] + told[4])

    def test_differ_is_the_first_tick_that_is_seen_otherwise(self):
        pairs = games(100)
        for rows, pressed in pairs:
            other = pressed[:4] + [pressed[5], pressed[4]] + pressed[6:]
            one = [cave(*rows), play(*pressed)]
            another = [cave(*rows), play(*other)]
            told = ask(*one, save(0), *another, differ(0))[-1][0]
            ways = [ask(*way, *[seen(tick) for tick in range(13)])[2:] for way in (one, another)]
            otherwise = [tick for tick, (first, second) in enumerate(zip(*ways))
                         if first != second and [-2] not in (first, second)]
            self.assertEqual(told, otherwise[0] if otherwise else -6)

    def test_counts_and_place_tell_what_shows_tells(self):
        for rows, pressed in games(40):
            told = ask(cave(*rows), play(*pressed), shows(), counts())
            shown = picture(told[2])
            self.assertEqual(told[3], [count(shown, sign) for sign in EVERY_SIGN])
            for down, row in enumerate(shown):
                places = ask(cave(*rows), play(*pressed), *[place(across, down) for across in range(len(row))])[2:]
                self.assertEqual(places, [[EVERY_SIGN.index(sign)] for sign in row])

    def test_stones_and_gems_behind_each_tick(self):
        for rows, pressed in games(100):
            told = ask(cave(*rows), play(*pressed), *[seen(tick) for tick in range(13)])[2:]
            for answer in [answer for answer in told if answer != [-2]]:
                shown = picture(answer[4:])
                hit = count(rows, LOOKS) - count(shown, LOOKS)
                taken = count(rows, GEMS) + hit - count(shown, GEMS)
                self.assertEqual(count(shown, STONES), count(rows, STONES))
                self.assertEqual(answer[1], 20 * hit + 10 * taken + (100 if answer[0] == 1 else 0))
                self.assertEqual(answer[3], count(shown, GEMS))

    def test_what_shows_tells_is_read_as_that_cave(self):
        for rows, pressed in games(100):
            told = ask(cave(*rows), play(*pressed[:3]), shows(), counts())
            if told[1][0] == 0:
                read = ask(cave_bytes(told[2][1:]), shows(), counts(), seen(0))
                self.assertEqual(read[0], [0, 0, 0, told[1][3], len(rows[0]), len(rows)])
                self.assertEqual(read[1:3], told[2:])
                self.assertEqual(read[3][4:], told[2])

    def test_a_cave_written_and_read_differs_in_nothing(self):
        for rows, pressed in games(40):
            shown = last(cave(*rows), shows())
            self.assertEqual(last(cave(*rows), save(0), cave_bytes(shown[1:]), differ(0)), [-6])


class Refusals(unittest.TestCase):
    """Every refusal of every call leaves all as it was."""

    def check(self, before, refused):
        for call, refusal in refused:
            self.assertEqual(ask(*before, call)[-1], [refusal], call)
            self.assertEqual(probe(before, [call]), probe(before), call)
        for begin in range(0, len(refused), 3):
            several = [call for call, refusal in refused[begin:begin + 3]]
            self.assertEqual(probe(before, several), probe(before), several)

    ALWAYS = [
        (cave_bytes([64] * 301), -1), (cave_bytes([64, 256]), -1), (cave("@x"), -11), (cave("@ ", " "), -12),
        (cave(), -13), (cave("@" * 21), -13), (cave(*["@"] * 15), -13), (cave("  "), -14), (cave("@@"), -14),
        (hold(5), -1), (frame(1001), -1), (speed(0), -1), (speed(101), -1), (save(10), -1), (load(2), -2),
        (load(10), -2), (differ(2), -2), (differ(10), -2), (place(5, 0), -2), (place(0, 3), -2), (seen(10), -2),
        (back(10), -2), (play(0, 5), -1), (play(*[0] * 101), -1)]

    def test_while_it_goes_on(self):
        before = [cave(*ROOM), hold(2), play(2, 1), save(9), frame(13), speed(4), save(0)]
        self.check(before, self.ALWAYS + [(differ(0), -6), (differ(9), -6)])

    def test_when_it_is_over(self):
        before = [cave("@E   ", "#####", ":::::"), hold(4), save(9), play(0, 1), save(0), speed(4), frame(3)]
        self.check(before, self.ALWAYS + [(differ(0), -6), (differ(9), -6)])

    def test_more_than_400_ticks(self):
        before = [cave(*ROOM), speed(2), hold(2), frame(795), save(0), hold(1)]
        self.check(before, [(frame(7), -5), (frame(1000), -5), (play(0, 1, 2, 3), -5), (play(*[1] * 100), -5)])

    def test_at_the_beginning(self):
        self.check([save(1)], [(seen(1), -2), (back(1), -2), (place(3, 0), -2), (place(0, 3), -2), (differ(0), -2),
                               (differ(1), -6), (load(0), -2), (play(5), -1)])


LINE = (
    (cave("@*o  ", ":   #", "E  > "), [0, 0, 0, 1, 5, 3]),
    (save(0), [0]),
    (counts(), [8, 1, 1, 1, 0, 1, 0, 1, 1, 0, 0, 0, 1]),
    (place(0, 0), [7]),
    (place(2, 0), [3]),
    (place(0, 2), [12]),
    (place(5, 2), [-2]),
    (hold(1), [0]),
    (frame(9), [0, 0, 0, 1, 9]),
    (keys(), [0]),
    (frame(1), [0, 10, 1, 0, 0]),
    (shows(), [18] + bytes_of([" @   ", ": O^#", "E    "])),
    (keys(), [1, 1]),
    (seen(0), [0, 0, 0, 1, 18] + bytes_of(["@*o  ", ":   #", "E  > "])),
    (seen(2), [-2]),
    (differ(0), [-6]),
    (save(3), [1]),
    (play(3, 2, 2), [1, 110, 4, 0]),
    (keys(), [4, 1, 3, 2, 2]),
    (differ(3), [-6]),
    (place(0, 1), [0]),
    (play(4), [1, 110, 4, 0]),
    (back(2), [0, 10, 2, 0]),
    (play(0), [0, 10, 3, 0]),
    (back(3), [0, 10, 3, 0]),
    (save(9), [3]),
    (load(3), [0, 10, 1, 0, 0]),
    (play(3, 2), [0, 10, 3, 0]),
    (differ(9), [3]),
    (back(4), [-2]),
    (speed(2), [0]),
    (frame(796), [-5]),
    (hold(9), [-1]),
    (hold(2), [0]),
    (frame(5), [1, 110, 4, 0, 1]),
    (frame(1000), [1, 110, 4, 0, 1]),
    (differ(10), [-2]),
    (load(9), [0, 10, 3, 0, 0]),
    (keys(), [3, 1, 3, 0]),
    (back(0), [0, 0, 0, 1]),
)


class FortyCalls(unittest.TestCase):
    def test_each_is_answered(self):
        self.assertEqual(len(LINE), 40)
        told = ask(*[call for call, answer in LINE])
        for (call, answer), got in zip(LINE, told):
            self.assertEqual(got, answer, call)

    def test_every_call_is_among_them(self):
        self.assertEqual(sorted({call[0] for call, answer in LINE}), list(range(14)))

    def test_they_are_told_one_behind_another(self):
        wanted = [number for call, answer in LINE for number in [len(answer)] + answer]
        handed = [number for call, answer in LINE for number in call]
        self.assertEqual(answers(list(handed)), wanted)
        # Asked again, it is as if for the first time.
        before = list(handed)
        self.assertEqual(answers(handed), wanted)
        self.assertEqual(handed, before)

    def test_the_longest_lines(self):
        text = bytes_of(["@" + " " * 19] + [" " * 20] * 13)
        told = ask(*[cave_bytes([0] * 400)] * 20, *[play(*[4294967295] * 120)] * 19, cave_bytes(text))
        self.assertEqual(told, [[-1]] * 39 + [[0, 0, 0, 0, 20, 14]])
        told = ask(cave_bytes(text), speed(1), hold(2), frame(400), *[keys()] * 18, *[seen(400)] * 18)
        self.assertEqual(told[4:22], [[400] + [2] * 400] * 18)
        self.assertEqual(told[22:], [[0, 0, 400, 0, 294] + bytes_of([" " * 20] * 13 + ["@" + " " * 19])] * 18)


class Form(unittest.TestCase):
    def test_just_so_many_numbers(self):
        told = ask(cave("@ ", "  "), play(1), place(0, 0), seen(1), back(1), keys(), counts(), save(0), play(2),
                   back(1), play(1, 3), back(1), play(2), load(0), play(3), save(1), load(0), play(2), differ(1))
        self.assertEqual([len(answer) for answer in told],
                         [6, 4, 1, 11, 4, 2, 13, 1, 4, 4, 4, 4, 4, 5, 4, 1, 5, 4, 1])
        self.assertEqual(told[-1], [2])

    def test_numbers_as_they_are_handed_in_and_told(self):
        self.assertEqual(answers([11, 3, 1, 2, 0]), [4, 0, 0, 3, 0])
        self.assertEqual(answers([11, 0]), [4, 0, 0, 0, 0])
        self.assertEqual(answers([7, 1, 1, 7, 3, 0]), [1, 7, 1, -2])
        self.assertEqual(answers([10, 11, 2, 4, 4, 10]), [1, 0, 4, 0, 0, 2, 0, 3, 2, 4, 4])
        self.assertEqual(answers([12]), [13, 0, 0, 8, 0, 0, 0, 0, 1, 0, 0, 0, 0, 0])
        self.assertEqual(answers([8, 0]), [17, 0, 0, 0, 0, 12, 35, 35, 35, 10, 35, 64, 35, 10, 35, 35, 35, 10])
        self.assertEqual(answers([9, 0, 9, 1]), [4, 0, 0, 0, 0, 1, -2])
        self.assertEqual(answers([13, 0, 4, 0, 13, 0]), [1, -2, 1, 0, 1, -6])

    def test_keys_of_call_numbers_are_keys(self):
        self.assertEqual(answers([11, 4, 4, 0, 3, 1, 10]), [4, 0, 0, 4, 0, 5, 4, 4, 0, 3, 1])

    def test_calls_go_on_behind_a_refused_one(self):
        self.assertEqual(answers([11, 2, 9, 13, 10]), [1, -1, 1, 0])
        self.assertEqual(answers([11] + [101] + [10] * 101 + [10]), [1, -1, 1, 0])

    def test_all_are_plain_whole_numbers(self):
        told = answers([number for call, answer in LINE for number in call])
        self.assertEqual({number.__class__ for number in told}, {int})


if __name__ == "__main__":
    unittest.main()
