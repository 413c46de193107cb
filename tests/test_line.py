import unittest

from stonecave.game import answers
from tests.helper import ask, bytes_of, cave, frame, hold, last, load, picture, save, shows, speed

FIRST_TEXT = [35, 35, 35, 10, 35, 64, 35, 10, 35, 35, 35, 10]
SOME_CALLS = [[0, 4, 64, 42, 32, 10], [3, 5], [1, 1], [2, 12], [4, 0], [6], [5, 0]]
SOME_NUMBERS = [number for call in SOME_CALLS for number in call]
SOME_ANSWERS = [6, 0, 0, 0, 1, 3, 1,
                1, 0,
                1, 0,
                5, 0, 10, 2, 0, 2,
                1, 2,
                5, 4, 32, 32, 64, 10,
                5, 0, 10, 2, 0, 2]


class Beginning(unittest.TestCase):
    def test_the_cave_of_three_rows_of_three(self):
        self.assertEqual(last(shows()), [12] + FIRST_TEXT)

    def test_how_it_stands(self):
        self.assertEqual(last(frame(0)), [0, 0, 0, 0, 0])

    def test_nothing_is_held_down(self):
        # All wall round the player: what is held down shows in a cave with room, and that begins anew.
        for key in range(5):
            told = ask(hold(key), frame(100), shows())
            self.assertEqual(told[1:], [[0, 0, 10, 0, 0], [12] + FIRST_TEXT])
        told = ask(cave("   ", " @ ", "   "), frame(100), shows())
        self.assertEqual(picture(told[2]), ["   ", " @ ", "   "])

    def test_nothing_is_kept(self):
        self.assertEqual(ask(*[load(where) for where in range(11)]), [[-2]] * 11)

    def test_a_tick_takes_10(self):
        self.assertEqual(last(frame(9)), [0, 0, 0, 0, 9])
        self.assertEqual(last(frame(10)), [0, 0, 1, 0, 0])

    def test_it_can_be_kept(self):
        told = ask(save(0), cave("@ "), load(0), shows())
        self.assertEqual(told, [[0], [0, 0, 0, 0, 2, 1], [0, 0, 0, 0, 0], [12] + FIRST_TEXT])


class Form(unittest.TestCase):
    def test_counts_and_numbers(self):
        self.assertEqual(answers(SOME_NUMBERS), SOME_ANSWERS)

    def test_a_refusal_is_its_number_alone(self):
        self.assertEqual(answers([0, 0, 1, 5, 2, 1001, 3, 0, 4, 10, 5, 0]),
                         [1, -13, 1, -1, 1, -1, 1, -1, 1, -1, 1, -2])
        self.assertEqual(answers([3, 1, 2, 401]), [1, 0, 1, -5])

    def test_calls_go_on_behind_a_refused_one(self):
        self.assertEqual(answers([0, 3, 1, 2, 3, 1, 1, 6]), [1, -11, 1, 0, 13, 12] + FIRST_TEXT)
        self.assertEqual(answers([0] + [301] + [6] * 301 + [1, 1]), [1, -1, 1, 0])

    def test_all_are_plain_whole_numbers(self):
        told = answers(SOME_NUMBERS + [2, 1001, 0, 0])
        self.assertIs(list, told.__class__)
        self.assertEqual({number.__class__ for number in told}, {int})

    def test_a_text_of_call_numbers_is_a_text(self):
        self.assertEqual(answers([0, 4, 6, 6, 6, 6, 4, 0]), [1, -11, 1, 0])

    def test_one_call_and_40(self):
        self.assertEqual(answers([1, 4]), [1, 0])
        self.assertEqual(ask(*[frame(10)] * 40)[-1], [0, 0, 40, 0, 0])


class NothingIsKept(unittest.TestCase):
    def test_what_is_handed_in_is_not_changed(self):
        handed = list(SOME_NUMBERS)
        answers(handed)
        self.assertEqual(handed, SOME_NUMBERS)
        handed = [0, 0, 0, 301] + [64] * 301 + [2, 1001]
        before = list(handed)
        answers(handed)
        self.assertEqual(handed, before)

    def test_one_line_keeps_nothing_for_the_next(self):
        for turn in range(3):
            self.assertEqual(answers(SOME_NUMBERS), SOME_ANSWERS)
        ask(cave("@   "), save(0), hold(1), speed(3), frame(2))
        self.assertEqual(ask(load(0), shows(), frame(10)), [[-2], [12] + FIRST_TEXT, [0, 0, 1, 0, 0]])
        self.assertEqual(ask(cave("@   "), frame(10), shows())[2], [5, 64, 32, 32, 32, 10])

    def test_what_is_given_back_is_new(self):
        told = answers([6])
        told[2] = 64
        told.append(1)
        self.assertEqual(answers([6]), [13, 12] + FIRST_TEXT)


class Bytes(unittest.TestCase):
    def test_the_helper_tells_a_cave_as_the_document_does(self):
        self.assertEqual(bytes_of(["# ", "@*"]), [35, 32, 10, 64, 42, 10])


if __name__ == "__main__":
    unittest.main()
