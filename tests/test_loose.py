import unittest

from tests.helper import after, standing

# The same for stones and gems: as it lies, as it falls.
KINDS = (("o", "O"), ("*", "+"))
# The player, where it plays no part.
ASIDE = "#@#"


def told(rows, lies, falls):
    """The rows with x and X put for the one that lies and the one that falls."""
    return [row.replace("x", lies).replace("X", falls) for row in rows]


class Loose(unittest.TestCase):
    def check(self, rows, goal, keys=(0,)):
        for lies, falls in KINDS:
            self.assertEqual(after(told(rows, lies, falls), keys), told(goal, lies, falls))

    def check_standing(self, rows, outcome, points):
        for lies, falls in KINDS:
            now = standing(told(rows, lies, falls))
            self.assertEqual(now[:3], [outcome, points, 1])


class Falling(Loose):
    def test_with_nothing_below_it_goes_there_and_falls(self):
        self.check(["x@", " #", " #"], [" @", "X#", " #"])
        self.check(["X@", " #", " #"], [" @", "X#", " #"])

    def test_one_place_a_tick(self):
        self.check(["x@", " #", " #", " #"], [" @", " #", "X#", " #"], [0, 0])

    def test_it_lies_behind_the_tick_that_brought_it_down(self):
        self.check(["x@", " #", "##"], [" @", "X#", "##"])
        self.check(["x@", " #", "##"], [" @", "x#", "##"], [0, 0])

    def test_on_the_border_it_lies(self):
        self.check(["X@"], ["x@"])
        self.check(["x@"], ["x@"])
        self.check(["@ ", " x"], ["@ ", " x"])

    def test_on_wall_and_earth_and_exit_it_lies(self):
        for sign in "#:E":
            self.check(["X@ ", sign + "  "], ["x@ ", sign + "  "])
            self.check(["x@ ", sign + "  "], ["x@ ", sign + "  "])
            # There is nothing at its sides, yet it doesn't roll.
            self.check([" x ", " " + sign + " ", ASIDE], [" x ", " " + sign + " ", ASIDE])

    def test_into_a_place_that_was_left_in_this_tick(self):
        # The player goes ahead of the stone, as it has its turn sooner.
        self.check([":::", "@x:", ":::"], ["@::", " x:", ":::"], [4])
        self.check(["#x", "#@", "# "], ["#x", "# ", "#@"], [2])
        self.check(["#x", "#@", "# ", "# "], ["# ", "#X", "# ", "#@"], [2, 2])


class OnThePlayer(Loose):
    def test_one_that_falls(self):
        self.check(["X", "@", "#"], [" ", "x", "#"])
        self.check_standing(["X", "@", "#"], 2, 0)

    def test_one_that_falls_with_nothing_below_the_player(self):
        self.check(["X", "@", " "], [" ", "x", " "])

    def test_one_that_lies(self):
        self.check(["x", "@"], ["x", "@"])
        self.check(["x", "@"], ["x", "@"], [0, 0, 0])
        self.check_standing(["x", "@"], 0, 0)
        # It doesn't roll off the player.
        self.check([" x ", " @ ", "   "], [" x ", " @ ", "   "])

    def test_from_above(self):
        self.check(["x", " ", "@"], [" ", "X", "@"])
        self.check_standing(["x", " ", "@"], 0, 0)
        self.check(["x", " ", "@"], [" ", " ", "x"], [0, 0])

    def test_the_player_runs_from_it(self):
        self.check(["x ", "  ", "@ "], ["  ", "X ", " @"], [1])
        self.check(["x ", "  ", "@ "], ["  ", "  ", "X@"], [1, 0])

    def test_it_has_its_turn_sooner_than_the_player_below(self):
        self.check(["X ", "@ ", "##"], ["  ", "x ", "##"], [1])
        for key in range(5):
            self.assertEqual(standing(["O  ", "@ E", "   "], [key])[0], 2)

    def test_then_no_more_have_a_turn(self):
        self.check(["Xx", "@ ", "  "], [" x", "x ", "  "])
        self.check(["X ", "@ ", "x ", "  "], ["  ", "x ", "x ", "  "])

    def test_the_gem_that_fell_on_the_player_is_there(self):
        self.assertEqual(standing(["+", "@"]), [2, 0, 1, 1])


class OnAMonster(Loose):
    def test_one_that_falls(self):
        for look in "><^v":
            self.check(["X#@", look + "##", "   "], ["x#@", "*##", "   "])
            self.check_standing(["X#@", look + "##", "   "], 0, 20)

    def test_a_gem_comes_of_it(self):
        self.assertEqual(standing(["O#@", ">##"]), [0, 20, 1, 1])
        self.assertEqual(standing(["+#@", ">##"]), [0, 20, 1, 2])

    def test_one_that_lies(self):
        # The monster can't but turn.
        self.check(["x#@", "^##"], ["x#@", ">##"])
        self.check_standing(["x#@", "^##"], 0, 0)
        # It doesn't roll off the monster: that goes ahead behind its turn.
        self.check([" x #@", " v  #"], [" x #@", "  > #"])

    def test_the_gem_has_had_its_turn(self):
        rows, goal = ["X#@", ">##", " ##", " ##"], ["x#@", "*##", " ##", " ##"]
        self.check(rows, goal)
        self.check(rows, ["x#@", " ##", "+##", " ##"], [0, 0])

    def test_it_lies_and_goes_on_in_the_next_tick(self):
        rows = ["X #@", "> ##", "####"]
        self.check(rows, ["x #@", "* ##", "####"])
        self.check(rows, [" X#@", "* ##", "####"], [0, 0])

    def test_the_player_may_take_the_gem_in_this_tick(self):
        rows = ["O ", ">@", "##"]
        self.assertEqual(after(rows, [3]), ["o ", "@ ", "##"])
        self.assertEqual(standing(rows, [3]), [0, 30, 1, 0])

    def test_a_monster_beside_the_player_is_hit_in_time(self):
        self.assertEqual(standing(["O ", ">@", "##"], [0]), [0, 20, 1, 1])


class Rolling(Loose):
    def test_left(self):
        for base in "o*":
            self.check([" x ", " " + base + " ", ASIDE], ["X  ", " " + base + " ", ASIDE])
            self.check([" X ", " " + base + " ", ASIDE], ["X  ", " " + base + " ", ASIDE])

    def test_then_it_falls(self):
        self.check([" x ", " o ", ASIDE], ["   ", "Xo ", ASIDE], [0, 0])
        self.check([" x ", " o ", ASIDE], ["   ", "xo ", ASIDE], [0, 0, 0])

    def test_right_where_the_left_is_taken(self):
        for sign in "#:o*E":
            rows = [sign + "x ", "#o ", ASIDE]
            self.check(rows, [sign + " X", "#o ", ASIDE])
            rows = [sign + "X ", "#o ", ASIDE]
            self.check(rows, [sign + " X", "#o ", ASIDE])

    def test_right_where_below_the_left_is_taken(self):
        for sign in "#:oE":
            self.check([" x ", sign + "o ", ASIDE], ["  X", sign + "o ", ASIDE])

    def test_it_lies_where_the_right_is_taken_too(self):
        for sign in "#:o*E":
            for kind in "xX":
                self.check(["#" + kind + sign, "#o#", ASIDE], ["#x" + sign, "#o#", ASIDE])
                self.check(["#" + kind + " ", "#o" + sign, ASIDE], ["#x ", "#o" + sign, ASIDE])

    def test_it_lies_where_only_below_the_right_there_is_nothing(self):
        for kind in "xX":
            self.check(["#" + kind + "#", "#o ", ASIDE], ["#x#", "#o ", ASIDE])
            self.check(["#" + kind + ":", "#o ", ASIDE], ["#x:", "#o ", ASIDE])

    def test_the_player_and_monsters_take_places_too(self):
        self.check(["#x@", "#o ", "###"], ["#x@", "#o ", "###"])
        self.check(["#x ", "#o@", "###"], ["#x ", "#o@", "###"])
        self.check(["@x ", " o ", "###"], ["@ X", " o ", "###"])
        self.check([" x ", "@o ", "###"], ["  X", "@o ", "###"])
        self.check([">x ", "#o ", ASIDE], ["v X", "#o ", ASIDE])
        self.check(["#x ", "#o<", ASIDE], ["#x ", "#o^", ASIDE])

    def test_not_beyond_the_cave(self):
        self.check(["x#@", "o##"], ["x#@", "o##"])
        self.check(["@#x", "##o"], ["@#x", "##o"])
        self.check(["x ", "o ", "@#"], [" X", "o ", "@#"])
        self.check([" x", " o", "@#"], ["X ", " o", "@#"])

    def test_not_off_one_that_falls(self):
        # The one below has its turn behind it, and falls on.
        self.check([" x ", " O ", "   ", ASIDE], [" x ", "   ", " O ", ASIDE])
        self.check([" X ", " + ", "   ", ASIDE], [" x ", "   ", " + ", ASIDE])
        # Or it comes to lie, and is one to roll off in the next tick.
        self.check([" X ", " O ", "#:#", ASIDE], [" x ", " o ", "#:#", ASIDE])
        self.check([" X ", " O ", "#:#", ASIDE], ["X  ", " o ", "#:#", ASIDE], [0, 0])

    def test_not_off_wall_or_earth(self):
        self.check([" X ", " # ", ASIDE], [" x ", " # ", ASIDE])
        self.check([" X ", " : ", ASIDE], [" x ", " : ", ASIDE])

    def test_one_place_a_tick(self):
        # At its right it's come to in this tick, and has had its turn.
        self.check(["#x  ", "#o  ", "#o# ", "#@##"], ["# X ", "#o  ", "#o# ", "#@##"])
        self.check(["#x ", "#o ", "#  ", ASIDE], ["# X", "#  ", "#O ", ASIDE])

    def test_two_on_one(self):
        self.check(["  x ", "  o ", " #o ", "#@##"], [" X  ", "   O", " #o ", "#@##"])


if __name__ == "__main__":
    unittest.main()
