"""oddcrown.branches: points 35 to 37."""

import time
import unittest

import oracles
from oddcrown import branches
from oddcrown.branches import good_branches, handed_over, held_to, swing, worths
from oddcrown.crowns import values
from oddcrown.games import check_game
from oracles import fractions, number, numbers

SHOWN = [(0, "draw", [((1, 3), 1), ((2, 3), 2)]), (3, "theirs", [1, 0]), (4, "ours", [2, 0])]
# Place 0 can go on to a draw or stay: both lead to places with its value, but staying is worth nothing.
LEADING_BACK = [(1, "ours", [0, 1, 1, 3]), (0, "draw", [((1, 2), 2), ((1, 2), 3)]), (0, "draw", [((1, 1), 2)]),
                (1, "draw", [((1, 1), 3)])]
# Going from 0 to 1 and from 1 to 0 are both good, but not together.
LEADING_ROUND = [(0, "ours", [1, 2]), (3, "ours", [2, 0]), (0, "draw", [((1, 2), 0), ((1, 4), 3), ((1, 4), 4)]),
                 (2, "draw", [((1, 1), 3)]), (1, "draw", [((1, 1), 4)])]
REPEATED = [(1, "ours", [1, 2, 1, 0, 2]), (0, "theirs", [1, 0, 1]), (2, "draw", [((1, 3), 1), ((2, 3), 3)]),
            (3, "theirs", [3, 3])]
SEARCHED = [(game, oracles.Search(game).values)
            for game in [SHOWN, LEADING_BACK, LEADING_ROUND, REPEATED] + oracles.small_games(61, 130)
            + oracles.small_games(62, 20, ("ours", "theirs")) + oracles.small_games(63, 20, ("draw", "theirs"))]


def sided(game):
    """The places of the sides."""
    return [place for place in range(len(game)) if game[place][1] != "draw"]


def alone(game, place, branch):
    """The game in which the place has this branch alone."""
    mark, kind, rest = game[place]
    return game[:place] + [(mark, kind, [rest[branch]])] + game[place + 1:]


def of_side(game, place, side):
    mark, _, rest = game[place]
    return game[:place] + [(mark, side, rest)] + game[place + 1:]


def of_other(game, place):
    return of_side(game, place, oracles.OTHER[game[place][1]])


class BranchesTest(oracles.CrownTestCase):
    def test_nothing_is_modified_and_what_is_returned_is_new(self):
        for game, _ in SEARCHED[:60]:
            self.assert_new(good_branches, game)
            for place in sided(game):
                self.assert_new(worths, game, place)
                self.assert_new(handed_over, game, place)
                self.assert_unchanged(swing, game, place, seen=0)
                for branch in range(len(game[place][2])):
                    self.assert_new(held_to, game, place, branch)

    def test_the_functions_stand_in_their_file(self):
        for name in ["held_to", "worths", "good_branches", "handed_over", "swing"]:
            self.assertEqual(getattr(branches, name).__module__, "oddcrown.branches")

    def test_games_of_16_places(self):
        games = [game for kinds in [("draw", "ours", "theirs"), ("ours", "theirs"), ("draw", "ours")]
                 for game in oracles.large_games(64, 12, 16, kinds)]
        # Of two values alone, and six branches to each place: every branch may be a good one.
        games += [oracles.random_game(oracles.random.Random(65 + at), 16, ("ours", "theirs"), 10, 6) for at in range(8)]
        for game in games:
            began = time.perf_counter()
            good = good_branches(game)
            if sided(game):
                place = sided(game)[-1]
                self.assertEqual(len(worths(game, place)), len(game[place][2]))
                swing(game, place, seen=0)
                self.assertTrue(good[place])
            self.assertLess(time.perf_counter() - began, 5)


class WorthsTest(oracles.CrownTestCase):
    def test_a_place_held_to_a_branch(self):
        self.assertEqual(held_to(REPEATED, 0, 1), [(1, "ours", [2])] + REPEATED[1:])
        self.assertEqual(held_to(REPEATED, 0, 2), [(1, "ours", [1])] + REPEATED[1:])
        self.assertEqual(held_to(REPEATED, 1, 1), REPEATED[:1] + [(0, "theirs", [0])] + REPEATED[2:])
        for game, _ in SEARCHED:
            for place in sided(game):
                for branch in range(len(game[place][2])):
                    held = held_to(game, place, branch)
                    self.assertEqual(held, alone(game, place, branch))
                    self.assertIsNone(check_game(held))

    def test_as_the_document_shows_it(self):
        self.assertEqual(worths(SHOWN, 2), [(1, 1), (0, 1)])
        self.assertEqual(good_branches(SHOWN), [None, [0], [0]])

    def test_worths_against_all_pairs_of_strategies(self):
        several = 0
        for game, told in SEARCHED:
            for place in sided(game):
                expected = [oracles.Search(alone(game, place, branch)).values[place]
                            for branch in range(len(game[place][2]))]
                found = worths(game, place)
                self.assert_numbers(found)
                self.assertEqual(found, numbers(expected))
                best = max(expected) if game[place][1] == "ours" else min(expected)
                self.assertEqual(told[place], best)
                several += len(set(expected)) > 1
        self.assertGreater(several, 40)

    def test_the_same_place_several_times(self):
        self.assertEqual(worths(LEADING_BACK, 0), [(0, 1), (1, 2), (1, 2), (0, 1)])
        self.assertEqual(worths(REPEATED, 3), [(0, 1), (0, 1)])
        found = worths(REPEATED, 0)
        self.assertEqual([found[0], found[1]], [found[2], found[4]])


class GoodBranchesTest(oracles.CrownTestCase):
    def test_every_branch_with_the_worth_of_the_value(self):
        tied = bad = 0
        for game, told in SEARCHED:
            good = good_branches(game)
            self.assertEqual(len(good), len(game))
            for place in range(len(game)):
                if game[place][1] == "draw":
                    self.assertIsNone(good[place])
                    continue
                held = [oracles.Search(alone(game, place, branch)).values for branch in range(len(game[place][2]))]
                self.assertEqual(good[place], [branch for branch, other in enumerate(held)
                                               if other[place] == told[place]])
                self.assertTrue(good[place])
                for branch, other in enumerate(held):
                    # Held to a good branch all values stay, and with another one not.
                    self.assertEqual(other == told, branch in good[place])
                tied += len(good[place]) > 1
                bad += len(good[place]) < len(held)
        self.assertGreater(tied, 40)
        self.assertGreater(bad, 40)

    def test_several_branches_to_one_place_are_good_together(self):
        self.assertEqual(good_branches(LEADING_BACK), [[1, 2], None, None, None])
        self.assertEqual(good_branches(REPEATED)[3], [0, 1])

    def test_a_target_with_the_value_of_the_place_is_not_enough(self):
        told = values(LEADING_BACK)
        self.assertEqual(told[LEADING_BACK[0][2][0]], told[0])
        self.assertNotIn(0, good_branches(LEADING_BACK)[0])

    def test_good_branches_that_are_not_best_together(self):
        self.assertEqual(good_branches(LEADING_ROUND), [[0, 1], [0, 1], None, None, None])

    def test_a_game_without_draws_and_one_without_sides(self):
        self.assertEqual(good_branches([(0, "ours", [0, 1, 0]), (1, "theirs", [1, 0])]), [[0, 2], [0]])
        self.assertEqual(good_branches([(0, "draw", [((1, 1), 0)])]), [None])

    def test_held_to_good_branches_one_after_another_games_of_16_places_keep_their_values(self):
        for game in oracles.large_games(66, 10, 16):
            told = values(game)
            for place in sided(game):
                game = held_to(game, place, good_branches(game)[place][-1])
                self.assertEqual(values(game), told)


class HandedOverTest(oracles.CrownTestCase):
    def test_a_place_handed_over(self):
        self.assertEqual(handed_over(SHOWN, 1), [SHOWN[0], (3, "ours", [1, 0]), SHOWN[2]])
        self.assertEqual(handed_over(SHOWN, 2), [SHOWN[0], SHOWN[1], (4, "theirs", [2, 0])])
        for game, _ in SEARCHED:
            for place in sided(game):
                self.assertEqual(handed_over(game, place), of_other(game, place))
                self.assertEqual(handed_over(handed_over(game, place), place), game)

    def test_no_value_becomes_greater_if_a_place_of_ours_is_handed_over(self):
        less = more = 0
        for game, told in SEARCHED:
            for place in sided(game):
                other = fractions(values(handed_over(game, place)))
                for before, behind in zip(told, other):
                    if game[place][1] == "ours":
                        self.assertLessEqual(behind, before)
                    else:
                        self.assertGreaterEqual(behind, before)
                less += game[place][1] == "ours" and other != told
                more += game[place][1] == "theirs" and other != told
        self.assertGreater(less, 20)
        self.assertGreater(more, 20)

    def test_the_swing_against_all_pairs_of_strategies(self):
        itself = apart = 0
        for game, _ in SEARCHED:
            for place in sided(game):
                if_ours = oracles.Search(of_side(game, place, "ours")).values
                if_theirs = oracles.Search(of_side(game, place, "theirs")).values
                for seen in range(len(game)):
                    expected = if_ours[seen] - if_theirs[seen]
                    self.assertGreaterEqual(expected, 0)
                    found = swing(game, place, seen=seen)
                    self.assert_numbers([found])
                    self.assertEqual(found, number(expected))
                    itself += expected != 0 and seen == place
                    apart += expected != 0 and seen != place
        self.assertGreater(itself, 20)
        self.assertGreater(apart, 20)

    def test_known_swings(self):
        game = [(1, "ours", [1, 2]), (0, "draw", [((1, 1), 1)]), (1, "draw", [((1, 1), 2)]),
                (0, "draw", [((1, 3), 0), ((2, 3), 1)])]
        for told in [game, handed_over(game, 0)]:
            self.assertEqual(swing(told, 0, seen=0), (1, 1))
            self.assertEqual(swing(told, 0, seen=3), (1, 3))
            self.assertEqual(swing(told, 0, seen=1), (0, 1))
        self.assertEqual(swing([(0, "ours", [0])], 0, seen=0), (0, 1))
        self.assertEqual(swing(LEADING_ROUND, 0, seen=2), (0, 1))
        self.assertEqual(swing(SHOWN, 1, seen=0), (1, 3))


if __name__ == "__main__":
    unittest.main()
