import unittest

from tests.helper import ask, bytes_of, cave, cave_bytes, frame, hold, last, picture, save, load, shows, speed

FIRST_ROWS = ["###", "#@#", "###"]


def answer_to(text):
    return last(cave_bytes(text))


def rows_answer(*rows):
    return last(cave(*rows))


class GoodCaves(unittest.TestCase):
    def test_answers_how_it_stands_and_the_size(self):
        self.assertEqual(rows_answer("####", "#@*#", "#  #", "#+*#", "####"), [0, 0, 0, 3, 4, 5])

    def test_smallest_cave(self):
        self.assertEqual(rows_answer("@"), [0, 0, 0, 0, 1, 1])

    def test_every_byte_is_known(self):
        every = " :#oO*+@>v<^E"
        told = ask(cave(every), shows())
        self.assertEqual(told[0], [0, 0, 0, 2, 13, 1])
        self.assertEqual(told[1], [14, 32, 58, 35, 111, 79, 42, 43, 64, 62, 118, 60, 94, 69, 10])

    def test_lost_is_told_by_a_tick_alone(self):
        self.assertEqual(rows_answer("O>", "@ "), [0, 0, 0, 0, 2, 2])

    def test_last_byte_10_may_lack(self):
        text = bytes_of(["# ", "@*"])
        for given in (text, text[:-1]):
            told = ask(cave_bytes(given), shows())
            self.assertEqual(told, [[0, 0, 0, 1, 2, 2], [6] + text])

    def test_one_row_without_byte_10(self):
        self.assertEqual(ask(cave_bytes([64]), shows()), [[0, 0, 0, 0, 1, 1], [2, 64, 10]])

    def test_20_places_and_14_rows(self):
        rows = ["@" + " " * 19] + [" " * 20] * 13
        told = ask(cave(*rows), shows())
        self.assertEqual(told[0], [0, 0, 0, 0, 20, 14])
        self.assertEqual(told[1], [294] + bytes_of(rows))

    def test_a_new_game_forgets_the_old_one(self):
        told = ask(cave("@*  "), hold(1), frame(15), cave("@*  "), frame(10), shows())
        self.assertEqual(told[2], [0, 10, 1, 0, 5])
        self.assertEqual(told[3], [0, 0, 0, 1, 4, 1])
        # Nothing is held down, and nothing was left over.
        self.assertEqual(told[4], [0, 0, 1, 1, 0])
        self.assertEqual(picture(told[5]), ["@*  "])

    def test_a_new_game_after_one_that_is_over(self):
        told = ask(cave("@E"), hold(1), frame(10), cave("@E"), hold(1), frame(10))
        self.assertEqual(told[2], [1, 100, 1, 0, 0])
        self.assertEqual(told[3], [0, 0, 0, 0, 2, 1])
        self.assertEqual(told[5], [1, 100, 1, 0, 0])

    def test_how_long_a_tick_takes_stays(self):
        told = ask(speed(3), cave("@"), frame(10))
        self.assertEqual(told[2], [0, 0, 3, 0, 1])

    def test_what_is_kept_stays(self):
        told = ask(cave("@*"), save(2), cave("@ "), load(2), shows())
        self.assertEqual(told[3], [0, 0, 0, 1, 0])
        self.assertEqual(picture(told[4]), ["@*"])


class Faults(unittest.TestCase):
    def test_1_a_byte_that_is_none_of_these(self):
        for byte in range(256):
            known = byte in b" :#oO*+>v<^E"
            wanted = [0, 0, 0, 1 if byte in b"*+" else 0, 2, 1] if known else [-11]
            if byte in (10, 64):
                continue
            self.assertEqual(answer_to([64, byte]), wanted, byte)

    def test_2_rows_that_are_not_as_long(self):
        self.assertEqual(rows_answer("@ ", " "), [-12])
        self.assertEqual(rows_answer(" ", "@ "), [-12])
        self.assertEqual(rows_answer("@ ", "  ", "   "), [-12])
        self.assertEqual(rows_answer("@ ", "   ", "  "), [-12])

    def test_2_an_empty_row_among_others(self):
        self.assertEqual(answer_to([64, 10, 10]), [-12])
        self.assertEqual(answer_to([10, 64]), [-12])
        self.assertEqual(answer_to([64, 10, 10, 32, 10]), [-12])

    def test_3_no_rows(self):
        self.assertEqual(answer_to([]), [-13])

    def test_3_no_row_as_long_as_a_place(self):
        self.assertEqual(answer_to([10]), [-13])
        self.assertEqual(answer_to([10, 10, 10]), [-13])
        self.assertEqual(answer_to([10] * 300), [-13])

    def test_3_too_many_places_in_a_row(self):
        self.assertEqual(rows_answer("@" + " " * 19), [0, 0, 0, 0, 20, 1])
        self.assertEqual(rows_answer("@" + " " * 20), [-13])
        self.assertEqual(rows_answer("@" + " " * 298), [-13])

    def test_3_too_many_rows(self):
        self.assertEqual(rows_answer("@", *[" "] * 13), [0, 0, 0, 0, 1, 14])
        self.assertEqual(rows_answer("@", *[" "] * 14), [-13])

    def test_4_no_player(self):
        self.assertEqual(rows_answer(" "), [-14])
        self.assertEqual(rows_answer("  ", "##"), [-14])

    def test_4_two_players(self):
        self.assertEqual(rows_answer("@@"), [-14])
        self.assertEqual(rows_answer("@ ", " @"), [-14])

    def test_the_first_of_several_is_told(self):
        # All four; all but the first; the last two.
        self.assertEqual(rows_answer("x" * 21, " "), [-11])
        self.assertEqual(rows_answer(" " * 21, " "), [-12])
        self.assertEqual(rows_answer(" " * 21), [-13])
        self.assertEqual(rows_answer(*[" "] * 15), [-13])
        self.assertEqual(rows_answer(*["@"] * 15), [-13])
        # Pairs of them.
        self.assertEqual(rows_answer("@x", " "), [-11])
        self.assertEqual(rows_answer("@" + "x" * 20), [-11])
        self.assertEqual(rows_answer("x"), [-11])
        self.assertEqual(rows_answer("  ", " "), [-12])
        self.assertEqual(rows_answer("@" + " " * 20, " "), [-12])
        self.assertEqual(rows_answer("@", *[" "] * 14, ""), [-12])

    def test_a_strange_byte_behind_other_faults(self):
        self.assertEqual(answer_to([10, 10, 120]), [-11])


class TooMuch(unittest.TestCase):
    def test_300_and_301_bytes(self):
        rows = ["@" + " " * 18] + [" " * 19] * 14
        text = bytes_of(rows)
        self.assertEqual(len(text), 300)
        # 15 rows: too many for a cave, yet not too many bytes.
        self.assertEqual(answer_to(text), [-13])
        self.assertEqual(answer_to([0] * 300), [-11])
        self.assertEqual(answer_to([32] * 301), [-1])
        self.assertEqual(answer_to(text + [10]), [-1])
        self.assertEqual(answer_to([32] * 400), [-1])

    def test_a_byte_of_255_and_of_256(self):
        self.assertEqual(answer_to([64, 255]), [-11])
        self.assertEqual(answer_to([64, 256]), [-1])
        self.assertEqual(answer_to([256, 64]), [-1])
        self.assertEqual(answer_to([64, 4294967295]), [-1])
        # 320 is 64 and 256 more: no byte at all.
        self.assertEqual(answer_to([320]), [-1])

    def test_it_is_told_before_any_fault(self):
        self.assertEqual(answer_to([1, 256]), [-1])
        self.assertEqual(answer_to([1] * 301), [-1])


class Refused(unittest.TestCase):
    def test_all_is_as_it_was(self):
        before = [cave("@* #", "    "), speed(4), hold(1), frame(5), save(3)]
        behind = [frame(2), frame(1), shows(), load(3), shows()]
        wanted = ask(*before, *behind)[5:]
        self.assertEqual(wanted[0], [0, 10, 1, 0, 3])
        self.assertEqual(wanted[1], [0, 10, 2, 0, 0])
        for text in ([1], [64, 10, 10], [], [32], [32] * 301, [256]):
            told = ask(*before, cave_bytes(text), *behind)
            self.assertEqual(len(told[5]), 1)
            self.assertLess(told[5][0], 0)
            self.assertEqual(told[6:], wanted)

    def test_the_first_cave_is_still_there(self):
        told = ask(cave("@@"), shows(), frame(10))
        self.assertEqual(told[0], [-14])
        self.assertEqual(picture(told[1]), FIRST_ROWS)
        self.assertEqual(told[2], [0, 0, 1, 0, 0])


class Shows(unittest.TestCase):
    def test_how_many_bytes_then_they(self):
        self.assertEqual(last(cave("@o", "# "), shows()), [6, 64, 111, 10, 35, 32, 10])

    def test_it_shows_the_cave_as_it_stands_now(self):
        told = ask(cave("@: "), hold(1), frame(10), shows(), frame(10), shows())
        self.assertEqual(told[3], [4, 32, 64, 32, 10])
        self.assertEqual(told[5], [4, 32, 32, 64, 10])

    def test_it_shows_a_cave_without_its_player(self):
        told = ask(cave("@E"), hold(1), frame(10), shows())
        self.assertEqual(told[3], [3, 32, 69, 10])

    def test_it_changes_nothing(self):
        told = ask(cave("@ "), frame(7), shows(), shows(), frame(3))
        self.assertEqual(told[2], told[3])
        self.assertEqual(told[4], [0, 0, 1, 0, 0])

    def test_what_is_shown_is_read_as_that_cave(self):
        calls = [cave(" :#oO", "*+@>v", "<^E  "), frame(20), shows()]
        shown = last(*calls)
        told = ask(cave_bytes(shown[1:]), shows())
        self.assertEqual(told[0][4:], [5, 3])
        self.assertEqual(told[1], shown)


if __name__ == "__main__":
    unittest.main()
