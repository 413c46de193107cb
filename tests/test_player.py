import unittest

from tests.helper import after, all_turns, standing


class Walking(unittest.TestCase):
    def check_all_ways(self, rows, goal):
        """rows and goal tell of key 1, right; turned they tell of 2, down, and so on."""
        for turn, before, behind in all_turns(rows, goal):
            self.assertEqual(after(before, [turn + 1]), behind, turn + 1)

    def points_all_ways(self, rows, wanted):
        for turn, before, behind in all_turns(rows, rows):
            self.assertEqual(standing(before, [turn + 1]), wanted, turn + 1)

    def test_nothing_pressed(self):
        rows = [":::", ":@:", ":::"]
        self.assertEqual(after(rows, [0]), rows)
        self.assertEqual(standing(rows, [0]), [0, 0, 1, 0])

    def test_to_a_place_with_nothing(self):
        self.check_all_ways(["   ", " @ ", "   "], ["   ", "  @", "   "])
        self.points_all_ways(["   ", " @ ", "   "], [0, 0, 1, 0])

    def test_to_earth(self):
        self.check_all_ways([":::", ":@:", ":::"], [":::", ": @", ":::"])
        self.points_all_ways([":::", ":@:", ":::"], [0, 0, 1, 0])

    def test_one_place_a_tick(self):
        self.check_all_ways(["     ", "     ", "  @  ", "     ", "     "],
                            ["     ", "     ", "   @ ", "     ", "     "])

    def test_to_a_gem(self):
        # Wall or the player holds the gem, whichever way it is turned.
        self.check_all_ways(["###", "#@*", "###"], ["###", "# @", "###"])
        self.points_all_ways(["###", "#@*", "###"], [0, 10, 1, 0])

    def test_to_a_falling_gem(self):
        self.assertEqual(after(["@+", "##"], [1]), [" @", "##"])
        self.assertEqual(standing(["@+", "##"], [1]), [0, 10, 1, 0])
        self.assertEqual(after(["@ ", "+ ", "  "], [2]), ["  ", "@ ", "  "])
        self.assertEqual(standing(["@ ", "+ ", "  "], [2]), [0, 10, 1, 0])

    def test_to_a_gem_that_fell_in_this_tick(self):
        self.assertEqual(after(["* ", " @", "##"], [3]), ["  ", "@ ", "##"])
        self.assertEqual(standing(["* ", " @", "##"], [3]), [0, 10, 1, 0])

    def test_gems_are_not_pushed(self):
        self.assertEqual(after(["@* ", "###"], [1]), [" @ ", "###"])
        self.assertEqual(after([" *@", "###"], [3]), [" @ ", "###"])

    def test_not_into_a_wall(self):
        rows = ["###", "#@#", "###"]
        self.check_all_ways(rows, rows)
        self.points_all_ways(rows, [0, 0, 1, 0])

    def test_not_beyond_the_cave(self):
        self.check_all_ways(["@"], ["@"])
        # In wider caves the place beyond a row is none of the next row.
        self.assertEqual(after(["  @", "   "], [1]), ["  @", "   "])
        self.assertEqual(after(["   ", "@  "], [3]), ["   ", "@  "])
        self.assertEqual(after([" @ ", "   "], [4]), [" @ ", "   "])
        self.assertEqual(after(["   ", " @ "], [2]), ["   ", " @ "])

    def test_not_to_a_monster(self):
        for look in "<>v^":
            for turn, before, behind in all_turns(["####", "#@" + look + "#", "####"], []):
                self.assertEqual(after(before, [turn + 1]), before)
                self.assertEqual(standing(before, [turn + 1]), [2, 0, 1, 0])


class Pushing(unittest.TestCase):
    def test_right(self):
        self.assertEqual(after(["@o  ", "####"], [1]), [" @o ", "####"])
        self.assertEqual(standing(["@o  ", "####"], [1]), [0, 0, 1, 0])

    def test_left(self):
        self.assertEqual(after(["  o@", "####"], [3]), [" o@ ", "####"])

    def test_tick_by_tick(self):
        self.assertEqual(after(["@o   ", "#####"], [1, 1, 1]), ["   @o", "#####"])
        self.assertEqual(after(["   o@", "#####"], [3, 3, 3]), ["o@   ", "#####"])

    def test_only_where_there_is_nothing_behind(self):
        for sign in ":#o*E":
            for rows, key in (["@o" + sign, "###"], 1), ([sign + "o@", "###"], 3):
                self.assertEqual(after(rows, [key]), rows, rows)

    def test_not_onto_falling_ones_or_monsters(self):
        self.assertEqual(after(["@oO", "###"], [1]), ["@oo", "###"])
        self.assertEqual(after(["@o+", "###"], [1]), ["@o*", "###"])
        # The monster has its turn behind the player.
        self.assertEqual(after(["@o>", "###"], [1]), ["@ov", "###"])

    def test_not_beyond_the_cave(self):
        self.assertEqual(after(["@o", "##"], [1]), ["@o", "##"])
        self.assertEqual(after(["o@", "##"], [3]), ["o@", "##"])
        self.assertEqual(after(["  @o", "    ", "####"], [1])[0][2:], "@ ")
        self.assertEqual(after([" @o", "###", "   "], [1]), [" @o", "###", "   "])
        self.assertEqual(after(["   ", "o@ ", "###"], [3]), ["   ", "o@ ", "###"])

    def test_not_up_or_down(self):
        self.assertEqual(after(["   ", " @ ", " o ", "   "], [2]), ["   ", " @ ", "   ", " O "])
        self.assertEqual(after(["@", "o", "#", " "], [2]), ["@", "o", "#", " "])
        rows = [" ", "o", "@", "#"]
        self.assertEqual(after(rows, [4]), rows)

    def test_not_one_that_falls(self):
        # It has its turn behind the player, and so it falls yet when it's pressed.
        self.assertEqual(after(["@O ", "###"], [1]), ["@o ", "###"])
        self.assertEqual(after(["@O ", "###"], [1, 1]), [" @o", "###"])
        self.assertEqual(after(["o  ", "  @", "###"], [3, 0]), ["   ", "o@ ", "###"])

    def test_one_that_came_to_lie_in_this_tick(self):
        # It has its turn ahead of the player.
        self.assertEqual(after([" O@", "###"], [3]), ["o@ ", "###"])

    def test_not_one_that_came_down_in_this_tick(self):
        self.assertEqual(after([" o ", "  @", "###"], [3]), ["   ", " O@", "###"])

    def test_what_is_pushed_has_had_its_turn(self):
        self.assertEqual(after(["@o ", "## ", "## "], [1]), [" @o", "## ", "## "])
        self.assertEqual(after(["@o ", "## ", "## "], [1, 0]), [" @ ", "##O", "## "])
        self.assertEqual(after([" o@", " ##", " ##"], [3]), ["o@ ", " ##", " ##"])
        self.assertEqual(after([" o@", " ##", " ##"], [3, 0]), [" @ ", "O##", " ##"])


class WayOut(unittest.TestCase):
    def test_all_ways(self):
        for turn, before, behind in all_turns([":::", ":@E", ":::"], [":::", ": E", ":::"]):
            self.assertEqual(after(before, [turn + 1]), behind)
            self.assertEqual(standing(before, [turn + 1]), [1, 100, 1, 0])

    def test_not_while_there_is_a_gem(self):
        for turn, before, behind in all_turns(["####", "#@E#", "#*##", "####"], []):
            self.assertEqual(standing(before, [turn + 1])[:2], [0, 0])
        self.assertEqual(after(["@E", "##", "*:"], [1]), ["@E", "##", "*:"])
        self.assertEqual(standing(["@E", "##", "*:"], [1]), [0, 0, 1, 1])

    def test_not_while_a_gem_falls(self):
        self.assertEqual(after(["@E", "##", "+#", " #"], [1]), ["@E", "##", " #", "+#"])
        self.assertEqual(standing(["@E", "##", "+#", " #"], [1]), [0, 0, 1, 1])

    def test_behind_the_last_gem(self):
        self.assertEqual(standing(["@**E"], [1, 1]), [0, 20, 2, 0])
        self.assertEqual(standing(["@**E"], [1, 1, 1]), [1, 120, 3, 0])
        self.assertEqual(after(["@**E"], [1, 1, 1]), ["   E"])

    def test_only_when_it_is_pressed(self):
        self.assertEqual(standing(["@E"], [0, 2, 3, 4]), [0, 0, 4, 0])

    def test_then_no_more_have_a_turn(self):
        self.assertEqual(after(["o  ", "@E ", "O: ", " : "], [1]), ["o  ", " E ", "O: ", " : "])
        self.assertEqual(after(["@Eo", "## ", "## "], [1]), [" Eo", "## ", "## "])

    def test_who_came_ahead_has_had_a_turn(self):
        self.assertEqual(after(["o:", " :", "@E"], [1]), [" :", "O:", " E"])


if __name__ == "__main__":
    unittest.main()
