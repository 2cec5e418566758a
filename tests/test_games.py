"""oddcrown.games: points 1 to 8."""

import copy
import unittest
from fractions import Fraction

from oddcrown import errors
from oddcrown.games import (check_game, check_strategy, exchanged, is_chain, marks_of, places_of, reached,
                            targets, with_strategy)

LOOP = (0, "ours", [0])
SIMPLE = [(1, "ours", [0, 1]), (2, "draw", [((1, 2), 0), ((1, 2), 1)])]
MIXED = [(7, "draw", [((1, 6), 3), ((1, 3), 0), ((1, 2), 3)]), (0, "ours", [1, 4, 1]),
         (7, "theirs", [2]), (9, "theirs", [0, 2, 0, 4, 1, 3]), (3, "draw", [((1, 1), 2)])]
CHAIN = [(5, "draw", [((2, 5), 1), ((3, 5), 0)]), (4, "draw", [((1, 1), 1)])]

NO_WHOLE_NUMBERS = [True, False, None, 1.0, "1", "", (1,), [1], {}, float("nan"), len, int, 1j, b"1"]
NO_SHORT_NUMBERS = NO_WHOLE_NUMBERS + [
    0, 1, (), (1, 2, 1), [1, 2], "12", (1, 0), (0, 0), (1, -1), (-1, -2), (1, -2), (2, 2), (2, 4), (0, 2), (-2, 4),
    (0, -1), (6, 3), (500, 1000), (1000, 1), (1, 1000), (-1000, 1), (1000, 999), (999, 1000), (10 ** 40, 1),
    (1, 10 ** 40), (True, 1), (1, True), (True, True), (False, 1), (1.0, 2), (1, 2.0), (None, 1), (1, None),
    ("1", 2), ((1, 1), 2), Fraction(1, 2)]


def large_game():
    """A game with 24 places that all have six branches."""
    game = []
    for place in range(24):
        reach = [(place * 5 + k) % 24 for k in range(6)]
        kind = ("draw", "ours", "theirs")[place % 3]
        game.append((place % 10, kind, [((1, 6), x) for x in reach] if kind == "draw" else reach))
    return game


class GamesTestCase(unittest.TestCase):
    def assert_error(self, name, call, *told):
        """The call raises an error of just this class and leaves its arguments as they were."""
        before = copy.deepcopy(told)
        with self.assertRaises(errors.CrownError) as caught:
            call(*told)
        self.assertIs(type(caught.exception), getattr(errors, name), told)
        self.assertEqual(repr(told), repr(before))
        return caught.exception

    def assert_new(self, call, *told):
        """The answer shares no list with the arguments or with a later answer."""
        before = copy.deepcopy(told)
        first = call(*told)
        expected = copy.deepcopy(first)
        self.assertEqual(told, before)
        for place in first:
            if isinstance(place, tuple):
                place[2].append("spoilt")
        first.append("spoilt")
        self.assertEqual(told, before)
        self.assertEqual(call(*told), expected)


class CheckGameTest(GamesTestCase):
    def test_good_games(self):
        for game in [[LOOP], [(9, "theirs", [0] * 6)], SIMPLE, MIXED, CHAIN, large_game(), [LOOP] * 24]:
            before = copy.deepcopy(game)
            self.assertIsNone(check_game(game))
            self.assertEqual(game, before)

    def test_numbers_of_places(self):
        self.assert_error("BadSize", check_game, [])
        self.assert_error("BadSize", check_game, [LOOP] * 25)
        self.assert_error("BadSize", check_game, [LOOP] * 100)

    def test_good_marks(self):
        for mark in range(10):
            self.assertIsNone(check_game([(mark, "theirs", [0])]))

    def test_bad_marks(self):
        for mark in [-1, 10, -10, 100, 10 ** 30] + NO_WHOLE_NUMBERS:
            self.assert_error("BadMark", check_game, [(mark, "ours", [0])])
            self.assert_error("BadMark", check_game, [LOOP, (mark, "draw", [((1, 1), 0)])])

    def test_bad_kinds(self):
        for kind in ["", "our", "Ours", "ours ", "chance", "draws", "DRAW", "their", "None", "o"]:
            self.assert_error("BadKind", check_game, [(0, kind, [0])])
            self.assert_error("BadKind", check_game, [LOOP, (0, kind, [((1, 1), 0)])])

    def test_lengths_of_lists(self):
        for kind in ["ours", "theirs"]:
            for length in range(1, 7):
                self.assertIsNone(check_game([(0, kind, [0] * length)]))
            self.assert_error("BadSize", check_game, [(0, kind, [])])
            self.assert_error("BadSize", check_game, [(0, kind, [0] * 7)])
        for length in range(1, 7):
            self.assertIsNone(check_game([(0, "draw", [((1, length), 0)] * length)]))
        self.assert_error("BadSize", check_game, [(0, "draw", [])])
        self.assert_error("BadSize", check_game, [(0, "draw", [((1, 7), 0)] * 7)])

    def test_chances_that_are_no_short_numbers(self):
        for chance in NO_SHORT_NUMBERS:
            self.assert_error("BadNumber", check_game, [(0, "draw", [(chance, 0)])])
            self.assert_error("BadNumber", check_game, [(0, "draw", [((1, 2), 0), (chance, 0), ((1, 2), 0)])])

    def test_chances_that_are_not_greater_than_zero(self):
        for chance in [(0, 1), (-1, 1), (-1, 2), (-999, 998), (-998, 999)]:
            self.assert_error("BadChance", check_game, [(0, "draw", [(chance, 0)])])
            self.assert_error("BadChance", check_game, [(0, "draw", [((1, 1), 0), (chance, 0)])])
        self.assert_error("BadChance", check_game, [(0, "draw", [((3, 2), 0), ((-1, 2), 0)])])

    def test_sums_of_chances(self):
        good = [[(1, 1)], [(998, 999), (1, 999)], [(1, 2), (1, 3), (1, 6)], [(1, 2), (1, 4), (1, 8), (1, 16), (1, 16)],
                [(1, 2), (1, 5), (1, 10), (1, 20), (1, 10), (1, 20)], [(1, 996), (995, 996)]]
        bad = [[(1, 2)], [(2, 1)], [(999, 1)], [(1, 2), (1, 2), (1, 999)], [(1, 3), (1, 3)], [(997, 998), (1, 999)],
               [(998, 999), (1, 998)], [(1, 7)] * 6, [(3, 2), (1, 2)], [(1, 999)]]
        for chances in good:
            self.assertIsNone(check_game([(0, "draw", [(chance, 0) for chance in chances])]), chances)
        for chances in bad:
            self.assert_error("BadChance", check_game, [(0, "draw", [(chance, 0) for chance in chances])])

    def test_targets_that_are_no_places(self):
        for target in [-1, 2, 3, 24, -2, 10 ** 20] + NO_WHOLE_NUMBERS:
            for kind in ["ours", "theirs"]:
                self.assert_error("BadTarget", check_game, [(0, kind, [target]), LOOP])
                self.assert_error("BadTarget", check_game, [LOOP, (0, kind, [1, 0, target])])
            self.assert_error("BadTarget", check_game, [LOOP, (0, "draw", [((1, 1), target)])])
            self.assert_error("BadTarget", check_game, [(0, "draw", [((1, 2), 1), ((1, 2), target)]), LOOP])

    def test_targets_may_stand_behind(self):
        self.assertIsNone(check_game([(0, "ours", [2]), (0, "draw", [((1, 1), 2)]), (0, "theirs", [2])]))

    def test_the_number_of_places_comes_first(self):
        self.assert_error("BadSize", check_game, [(99, "wrong", [])] * 25)

    def test_the_first_wrong_thing_of_a_place_is_told(self):
        self.assert_error("BadMark", check_game, [(10, "wrong", [])])
        self.assert_error("BadKind", check_game, [(0, "wrong", [])])
        self.assert_error("BadKind", check_game, [(0, "wrong", ["x"] * 7)])
        self.assert_error("BadSize", check_game, [(0, "draw", [((2, 2), 9)] * 7)])
        self.assert_error("BadSize", check_game, [(0, "ours", [9] * 7)])
        self.assert_error("BadNumber", check_game, [(0, "draw", [((0, 2), 9)])])
        self.assert_error("BadNumber", check_game, [(0, "draw", [((-2, 4), None)])])
        self.assert_error("BadChance", check_game, [(0, "draw", [((0, 1), 9)])])
        self.assert_error("BadTarget", check_game, [(0, "draw", [((1, 3), 9)])])

    def test_branch_comes_before_branch(self):
        self.assert_error("BadTarget", check_game, [(0, "draw", [((1, 2), 9), ((2, 4), 0)])])
        self.assert_error("BadTarget", check_game, [(0, "draw", [((1, 2), 9), ((0, 1), 0)])])
        self.assert_error("BadChance", check_game, [(0, "draw", [((0, 1), 0), ((2, 4), 0)])])
        self.assert_error("BadNumber", check_game, [(0, "draw", [((2, 4), 0), ((0, 1), 0)])])
        self.assert_error("BadNumber", check_game, [(0, "draw", [((3, 1), 0), ((2, 4), 0)])])
        self.assert_error("BadTarget", check_game, [(0, "draw", [((3, 1), 0), ((1, 2), 7)])])

    def test_place_comes_before_place(self):
        mark, kind, size = (10, "ours", [0]), (0, "wrong", [0]), (0, "ours", [])
        number, total, target = (0, "draw", [((2, 2), 0)]), (0, "draw", [((1, 2), 0)]), (0, "theirs", [9])
        told = {"BadMark": mark, "BadKind": kind, "BadSize": size, "BadNumber": number, "BadChance": total,
                "BadTarget": target}
        for name, place in told.items():
            for other in told.values():
                self.assert_error(name, check_game, [LOOP, place, other])


class CheckStrategyTest(GamesTestCase):
    def assert_wrong_at(self, place, game, side, strategy):
        self.assertEqual(self.assert_error("BadStrategy", check_strategy, game, side, strategy).place, place)

    def test_good_strategies(self):
        for number in [0, 1, 2]:
            self.assertIsNone(check_strategy(MIXED, "ours", [None, number, None, None, None]))
        for number in range(6):
            self.assertIsNone(check_strategy(MIXED, "theirs", [None, None, 0, number, None]))
        self.assertIsNone(check_strategy(CHAIN, "ours", [None, None]))
        self.assertIsNone(check_strategy(SIMPLE, "theirs", [None, None]))

    def test_lengths(self):
        for strategy in [[], [0], [0, None, None], [None] * 24]:
            self.assert_error("BadSize", check_strategy, SIMPLE, "ours", strategy)
        self.assert_error("BadSize", check_strategy, CHAIN, "theirs", [None])

    def test_the_length_comes_before_the_places(self):
        self.assert_error("BadSize", check_strategy, SIMPLE, "ours", [7])
        self.assert_error("BadSize", check_strategy, SIMPLE, "ours", [None, 0, 0])

    def test_no_branch_is_told_at_a_place_of_the_side(self):
        self.assert_wrong_at(0, SIMPLE, "ours", [None, None])
        self.assert_wrong_at(3, MIXED, "theirs", [None, None, 0, None, None])

    def test_numbers_that_are_no_branches(self):
        for number in [-1, 2, -2, 24]:
            self.assert_wrong_at(0, SIMPLE, "ours", [number, None])
        self.assert_wrong_at(1, MIXED, "ours", [None, 3, None, None, None])
        self.assert_wrong_at(3, MIXED, "theirs", [None, None, 0, 6, None])

    def test_a_branch_is_told_where_the_side_does_not_choose(self):
        self.assert_wrong_at(1, SIMPLE, "ours", [0, 0])
        self.assert_wrong_at(0, SIMPLE, "theirs", [0, None])
        self.assert_wrong_at(2, MIXED, "ours", [None, 0, 0, None, None])

    def test_the_first_wrong_place_is_told(self):
        self.assert_wrong_at(0, MIXED, "ours", [0, None, 0, 0, 0])
        self.assert_wrong_at(1, MIXED, "ours", [None, 3, 0, None, 0])
        self.assert_wrong_at(2, MIXED, "theirs", [None, None, 1, None, 0])
        self.assert_wrong_at(4, MIXED, "theirs", [None, None, 0, 5, 0])


class ReadingGamesTest(GamesTestCase):
    def test_targets(self):
        self.assertEqual([targets(MIXED, place) for place in range(5)],
                         [[3, 0, 3], [1, 4, 1], [2], [0, 2, 0, 4, 1, 3], [2]])
        for place in range(5):
            self.assert_new(targets, MIXED, place)

    def test_places_of(self):
        self.assertEqual(places_of(MIXED, "draw"), [0, 4])
        self.assertEqual(places_of(MIXED, "ours"), [1])
        self.assertEqual(places_of(MIXED, "theirs"), [2, 3])
        self.assertEqual(places_of(CHAIN, "ours"), [])
        self.assertEqual(places_of(large_game(), "theirs"), [2, 5, 8, 11, 14, 17, 20, 23])
        self.assert_new(places_of, MIXED, "theirs")

    def test_marks_of(self):
        self.assertEqual(marks_of(MIXED), [0, 3, 7, 9])
        self.assertEqual(marks_of([LOOP]), [0])
        self.assertEqual(marks_of(large_game()), list(range(10)))
        self.assert_new(marks_of, MIXED)

    def test_is_chain(self):
        self.assertIs(is_chain(CHAIN), True)
        self.assertIs(is_chain(SIMPLE), False)
        self.assertIs(is_chain([(0, "theirs", [0]), CHAIN[1]]), False)
        self.assertIs(is_chain([LOOP]), False)
        self.assertIs(is_chain(with_strategy(SIMPLE, "ours", [1, None])), True)

    def test_reached(self):
        self.assertEqual(reached(MIXED, 0), [0, 1, 2, 3, 4])
        self.assertEqual(reached(MIXED, 1), [1, 2, 4])
        self.assertEqual(reached(MIXED, 2), [2])
        self.assertEqual(reached(MIXED, 4), [2, 4])
        self.assertEqual(reached(CHAIN, 0), [0, 1])
        self.assertEqual(reached(CHAIN, 1), [1])
        self.assert_new(reached, MIXED, 1)

    def test_a_place_is_reached_from_itself_even_without_a_way_back(self):
        self.assertEqual(reached([(0, "draw", [((1, 1), 1)]), (0, "ours", [1])], 0), [0, 1])

    def test_reached_goes_through_long_ways(self):
        row = [(0, "ours", [max(place - 1, 0)]) for place in range(24)]
        self.assertEqual([reached(row, place) for place in range(24)], [list(range(k + 1)) for k in range(24)])

    def test_with_strategy_as_the_document_shows_it(self):
        self.assertEqual(with_strategy(SIMPLE, "ours", [1, None]),
                         [(1, "draw", [((1, 1), 1)]), (2, "draw", [((1, 2), 0), ((1, 2), 1)])])

    def test_with_strategy(self):
        self.assertEqual(with_strategy(MIXED, "ours", [None, 1, None, None, None]),
                         [MIXED[0], (0, "draw", [((1, 1), 4)])] + MIXED[2:])
        self.assertEqual(with_strategy(MIXED, "theirs", [None, None, 0, 5, None]),
                         MIXED[:2] + [(7, "draw", [((1, 1), 2)]), (9, "draw", [((1, 1), 3)]), MIXED[4]])
        self.assertEqual(with_strategy(CHAIN, "ours", [None, None]), CHAIN)
        self.assert_new(with_strategy, MIXED, "theirs", [None, None, 0, 5, None])
        self.assert_new(with_strategy, MIXED, "ours", [None, 2, None, None, None])

    def test_exchanged(self):
        self.assertEqual(exchanged(MIXED), [MIXED[0], (0, "theirs", [1, 4, 1]), (7, "ours", [2]),
                                            (9, "ours", [0, 2, 0, 4, 1, 3]), MIXED[4]])
        self.assertEqual(exchanged(exchanged(large_game())), large_game())
        self.assertEqual(exchanged(CHAIN), CHAIN)
        self.assert_new(exchanged, MIXED)


if __name__ == "__main__":
    unittest.main()
