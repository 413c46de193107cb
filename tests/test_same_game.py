"""What holds of every game, tried in many caves that are drawn alike each time."""

import unittest

from tests.helper import GEMS, LOOKS, STONES, ask, cave, count, frame, games, hold, load, picture, save, shows, speed


class EveryGame(unittest.TestCase):
    def steps(self, rows, keys):
        """The rows and how it stands, before the first tick and behind each."""
        calls = [cave(*rows), speed(1), frame(0), shows()]
        for key in keys:
            calls += [hold(key), frame(1), shows()]
        told = ask(*calls)
        return [(picture(shown), now) for now, shown in zip(told[2::3], told[3::3])]

    def test_stones_are_as_many_as_there_were(self):
        for rows, keys in games(300):
            for shown, now in self.steps(rows, keys):
                self.assertEqual(count(shown, STONES), count(rows, STONES))

    def test_gems_come_of_monsters_and_go_to_the_player(self):
        for rows, keys in games(300):
            for shown, now in self.steps(rows, keys):
                hit = count(rows, LOOKS) - count(shown, LOOKS)
                taken = count(rows, GEMS) + hit - count(shown, GEMS)
                self.assertGreaterEqual(hit, 0)
                self.assertGreaterEqual(taken, 0)
                self.assertEqual(now[1], 20 * hit + 10 * taken + (100 if now[0] == 1 else 0))
                self.assertEqual(now[3], count(shown, GEMS))

    def test_the_player_is_in_the_cave_while_it_goes_on(self):
        for rows, keys in games(300):
            for shown, now in self.steps(rows, keys):
                if now[0] != 2:
                    self.assertEqual(count(shown, "@"), 1 - now[0])

    def test_what_is_shown_is_read_as_that_cave(self):
        for rows, keys in games(300):
            for shown, now in self.steps(rows, keys):
                if count(shown, "@") == 1:
                    told = ask(cave(*shown), shows())
                    self.assertEqual(picture(told[1]), shown)

    def test_when_it_is_over_nothing_changes(self):
        for rows, keys in games(300):
            steps = self.steps(rows, keys)
            for before, behind in zip(steps, steps[1:]):
                if before[1][0] != 0:
                    self.assertEqual(behind, before)
                else:
                    self.assertEqual(behind[1][2], before[1][2] + 1)

    def test_however_time_is_cut_it_is_the_same_game(self):
        for rows, keys in games(60):
            for key in range(5):
                whole = ask(cave(*rows), hold(key), frame(237), shows())[-2:]
                for cut in (9, 10, 11, 100):
                    frames = [frame(cut)] * (237 // cut) + [frame(237 % cut)]
                    self.assertEqual(ask(cave(*rows), hold(key), *frames, shows())[-2:], whole)

    def test_slower_ticks_come_to_the_same_game(self):
        for rows, keys in games(60):
            whole = ask(cave(*rows), hold(1), speed(1), frame(13), shows())[-2:]
            for parts in (2, 7, 50):
                self.assertEqual(ask(cave(*rows), hold(1), speed(parts), frame(13 * parts), shows())[-2:], whole)

    def test_kept_and_loaded_it_is_the_same_game(self):
        for rows, keys in games(100):
            start = [cave(*rows), hold(keys[0]), frame(34)]
            behind = [frame(28), hold(keys[1]), frame(51), shows()]
            straight = ask(*start, *behind)[-4:]
            apart = [save(3), hold(keys[2]), frame(99), speed(4), load(3), load(3)]
            self.assertEqual(ask(*start, *apart, *behind)[-4:], straight)


class Drawn(unittest.TestCase):
    def test_all_that_can_happen_happens(self):
        # Else the tests above would say little.
        outcomes = {}
        hits = 0
        for rows, keys in games(300):
            shown, now = EveryGame().steps(rows, keys)[-1]
            outcomes[now[0]] = outcomes.get(now[0], 0) + 1
            hits += count(rows, LOOKS) - count(shown, LOOKS)
        self.assertEqual(sorted(outcomes), [0, 1, 2])
        self.assertGreater(hits, 5)


if __name__ == "__main__":
    unittest.main()
