import unittest

from tests.helper import LOOKS, after, all_turns, standing, turned


class Monsters(unittest.TestCase):
    def check_all_looks(self, rows, goal, keys=(0,)):
        """rows and goal tell of one that looks right; turned they tell of the other looks."""
        for turn, before, behind in all_turns(rows, goal):
            self.assertEqual(after(before, keys), behind, turn)
            self.assertEqual(standing(before, keys)[:3], [0, 0, len(keys)], turn)


class Going(Monsters):
    def test_to_its_left_hand(self):
        self.check_all_looks(["@    ", "     ", "  >  ", "     ", "     "],
                             ["@    ", "  ^  ", "     ", "     ", "     "])

    def test_to_its_left_hand_though_ahead_is_taken(self):
        self.check_all_looks(["@#  #", "   # ", "  >##", "   # ", "     "],
                             ["@#  #", "  ^# ", "   ##", "   # ", "     "])

    def test_ahead_where_the_left_hand_is_taken(self):
        for sign in "#:E":
            self.check_all_looks(["@    ", "  " + sign + "  ", "  >  ", "     ", "     "],
                                 ["@    ", "  " + sign + "  ", "   > ", "     ", "     "])

    def test_it_only_turns_to_its_right(self):
        for sign in "#:E":
            self.check_all_looks(["@    ", "  " + sign + "  ", "  >" + sign + " ", "     ", "     "],
                                 ["@    ", "  " + sign + "  ", "  v" + sign + " ", "     ", "     "])

    def test_shut_in_it_turns_round(self):
        rows = ["@####", "#####", "##>##", "#####", "#####"]
        for look in "v<^>v":
            keys = [0] * ("v<^>v".index(look) + 1)
            goal = list(rows)
            goal[2] = "##" + look + "##"
            self.check_all_looks(rows, goal, keys)
        self.assertEqual(after(rows, [0] * 5)[2], "##v##")

    def test_earth_is_not_nothing(self):
        self.check_all_looks(["@::::", ":::::", "::>::", ":::::", ":::::"],
                             ["@::::", ":::::", "::v::", ":::::", ":::::"])

    def test_stones_and_gems_and_monsters_are_not_nothing(self):
        for sign in "o*":
            rows = ["#@###", "##" + sign + "##", "##>" + sign + "#", "#####"]
            self.assertEqual(after(rows), ["#@###", "##" + sign + "##", "##v" + sign + "#", "#####"])
        self.assertEqual(after(["#@###", "#####", "##>>#", "#####"]), ["#@###", "#####", "##vv#", "#####"])

    def test_not_to_its_right_hand_or_back(self):
        self.check_all_looks(["@#  #", "  #  ", "  >##", "     ", "     "],
                             ["@#  #", "  #  ", "  v##", "     ", "     "])

    def test_beyond_the_cave_is_wall(self):
        self.check_all_looks(["@#>"], ["@#v"])
        self.check_all_looks(["@##", "## ", " #>"], ["@##", "##^", " # "])
        self.check_all_looks(["@##", "  >", "###"], ["@##", "  v", "###"])
        # The place beyond a row is none of the row above or below.
        self.assertEqual(after(["@##", "##>", "   "]), ["@##", "##v", "   "])
        self.assertEqual(after(["#@#", "   ", "<##"]), ["#@#", "   ", "^##"])
        self.assertEqual(after(["#@#", "   ", "<##"], [0, 0]), ["#@#", "^  ", " ##"])

    def test_one_place_a_tick(self):
        # Those that go right or down come to a place whose turn is yet to come.
        self.assertEqual(after(["#####", ">   #", "#####", "@####"]), ["#####", " >  #", "#####", "@####"])
        self.assertEqual(after(["v##", " ##", " ##", " #@"]), [" ##", "v##", " ##", " #@"])

    def test_round_and_round(self):
        wanted = [["  ", "> "], ["^ ", "  "], ["> ", "  "], [" >", "  "], [" v", "  "],
                  ["  ", " v"], ["  ", " <"], ["  ", "< "], ["  ", "^ "], ["^ ", "  "]]
        for ticks, room in enumerate(wanted):
            self.assertEqual(after(["  #@", "> ##"], [0] * ticks), [room[0] + "#@", room[1] + "##"], ticks)

    def test_ones_in_a_row(self):
        # The one at the left has its turn first and finds the place ahead taken yet.
        self.assertEqual(after(["######", "#>>  #", "######", "@#####"]), ["######", "#v > #", "######", "@#####"])
        self.assertEqual(after(["######", "#  <<#", "######", "@#####"]), ["######", "# << #", "######", "@#####"])


class BesideThePlayer(unittest.TestCase):
    def test_on_each_side_with_each_look(self):
        for look in LOOKS:
            for turn, before, behind in all_turns(["   ", " @" + look, "   "], []):
                self.assertEqual(standing(before), [2, 0, 1, 0], before)
                # It's lost where it stands; it doesn't go or turn any more.
                self.assertEqual(after(before), before)

    def test_not_across_a_corner(self):
        for rows in all_turns(["@##", "#>#", "###"], []):
            self.assertEqual(standing(rows[1]), [0, 0, 1, 0])

    def test_not_two_places_away(self):
        for rows in all_turns(["###", "@#>", "###"], []):
            self.assertEqual(standing(rows[1]), [0, 0, 1, 0])

    def test_not_round_the_border(self):
        self.assertEqual(standing(["##@", ">##"]), [0, 0, 1, 0])
        self.assertEqual(standing(["##>", "@##"]), [0, 0, 1, 0])
        self.assertEqual(standing(["@#>"]), [0, 0, 1, 0])
        self.assertEqual(standing(["@", "#", "^"]), [0, 0, 1, 0])

    def test_the_player_may_leave_ahead_of_its_turn(self):
        self.assertEqual(standing([" @>"], [3])[:1], [0])
        self.assertEqual(after([" @>", "###"], [3]), ["@ v", "###"])

    def test_the_player_below_has_no_turn_ahead_of_it(self):
        self.assertEqual(standing([">", "@", " "], [2]), [2, 0, 1, 0])
        self.assertEqual(after([">", "@", " "], [2]), [">", "@", " "])

    def test_the_player_that_comes_to_it(self):
        self.assertEqual(standing(["@ >"], [1]), [2, 0, 1, 0])
        self.assertEqual(after(["@ >"], [1]), [" @>"])

    def test_a_monster_that_comes_has_had_its_turn(self):
        rows = ["> @", "###"]
        self.assertEqual(standing(rows), [0, 0, 1, 0])
        self.assertEqual(after(rows), [" >@", "###"])
        self.assertEqual(standing(rows, [0, 0]), [2, 0, 2, 0])

    def test_then_no_more_have_a_turn(self):
        self.assertEqual(after([">@o", "## ", "## "], [0]), [">@o", "## ", "## "])
        self.assertEqual(after(["##o ", ">@# ", "<#o ", "^ # "], [1])[1:], [">@# ", "<#o ", "^ # "])

    def test_who_came_ahead_has_had_a_turn(self):
        self.assertEqual(after(["o##", " ##", "#@>"]), [" ##", "O##", "#@>"])


class Turning(unittest.TestCase):
    def test_the_tests_turn_clockwise(self):
        self.assertEqual(turned(["@>", "##", "* "]), ["*#@", " #v"])


class Order(unittest.TestCase):
    def test_rows_from_above(self):
        # The upper stone lies on the lower one, which goes only then.
        self.assertEqual(after(["o#@", "o##", " ##"]), ["o#@", " ##", "O##"])
        self.assertEqual(after(["o#@", "o##", " ##"], [0, 0]), [" #@", "O##", "o##"])

    def test_each_row_from_the_left(self):
        # Both would roll to the places between them.
        self.assertEqual(after([" o o ", "#o o#", "#####", "@####"]), ["  Oo ", "#o o#", "#####", "@####"])
        self.assertEqual(after(["#> <#", "#####", "@####"]), ["# >^#", "#####", "@####"])

    def test_rows_go_ahead_of_what_stands_further_left(self):
        self.assertEqual(after(["#o #@", ">  ##", "#####"]), ["#  #@", "vO ##", "#####"])
        self.assertEqual(after(["  o#", ">  #", "#@##"]), ["^  #", "  O#", "#@##"])

    def test_the_player_has_its_turn_among_the_others(self):
        # A stone at its right would roll to where the player goes; one at its left does.
        self.assertEqual(after(["@ o#", "# o#", "####"], [0]), ["@O #", "# o#", "####"])
        self.assertEqual(after(["@ o#", "# o#", "####"], [1]), [" @o#", "# o#", "####"])
        self.assertEqual(after(["#o @", "#o #", "####"], [3]), ["# O@", "#o #", "####"])

    def test_what_came_to_a_place_has_had_its_turn(self):
        self.assertEqual(after(["@     ", "######"], [1]), [" @    ", "######"])
        self.assertEqual(after(["@#", " #", " #", " #"], [2]), [" #", "@#", " #", " #"])
        self.assertEqual(after(["o#@", " ##", " ##", " ##"]), [" #@", "O##", " ##", " ##"])


if __name__ == "__main__":
    unittest.main()
