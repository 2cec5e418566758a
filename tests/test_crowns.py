"""oddcrown.crowns: points 32 to 34."""

import random
import time
import unittest
from fractions import Fraction

import oracles
from oddcrown import crowns
from oddcrown.crowns import answer_of, check_answer, edges_of_classes, is_best, value_classes, values
from oddcrown.games import check_strategy
from oracles import fractions, number, numbers

SHOWN = [(0, "draw", [((1, 3), 1), ((2, 3), 2)]), (3, "theirs", [1]), (4, "ours", [2, 0])]
# We can go on to a draw or stay: both lead to places with the value 1/2, but staying loses.
LEADING_BACK = [(1, "ours", [0, 1]), (0, "draw", [((1, 2), 2), ((1, 2), 3)]), (0, "draw", [((1, 1), 2)]),
                (1, "draw", [((1, 1), 3)])]
# The same for the others, who lose by staying.
LEADING_BACK_THEIRS = [(2, "theirs", [0, 1])] + LEADING_BACK[1:]
# Ours at 0 and 1 can go round for ever and lose, or go on by either of them.
LEADING_ROUND = [(0, "ours", [1, 2]), (3, "ours", [2, 0]), (0, "draw", [((1, 2), 0), ((1, 4), 3), ((1, 4), 4)]),
                 (2, "draw", [((1, 1), 3)]), (1, "draw", [((1, 1), 4)])]
# The others win everywhere, but at 0 only by going to 2, from where we cannot keep out of 3.
LEFT_BEHIND = [(0, "theirs", [0, 2]), (2, "theirs", [3]), (1, "ours", [2, 1]), (1, "ours", [3, 3])]
# More games in which a side wins in one part by its own means, and elsewhere by coming near to another part.
IN_PARTS = [LEFT_BEHIND,
            [(0, "theirs", [0, 1]), (1, "ours", [2]), (1, "ours", [2, 3, 4]), (2, "theirs", [4]),
             (1, "theirs", [4, 4])],
            [(2, "theirs", [0, 2]), (4, "theirs", [3, 3]), (2, "ours", [1, 3, 4]), (3, "theirs", [5]),
             (3, "theirs", [2]), (1, "theirs", [5, 5])],
            [(1, "theirs", [1, 1, 0]), (0, "theirs", [1, 3]), (1, "ours", [4, 0]), (1, "ours", [5, 1]),
             (2, "ours", [6, 6]), (1, "theirs", [4]), (1, "theirs", [6])]]
HAIR = Fraction(1, 10 ** 60)
RANDOM = oracles.small_games(51, 250)
ALONE = [game for kinds in [("draw", "ours"), ("draw", "theirs"), ("ours",), ("theirs",), ("draw",), ("ours", "theirs")]
         for game in oracles.small_games(52, 30, kinds)]
IN_PARTS += [oracles.mirrored(game) for game in IN_PARTS]
SEARCHED = [(game, oracles.Search(game)) for game in RANDOM + ALONE + IN_PARTS]


class CrownsTest(oracles.CrownTestCase):
    def test_nothing_is_modified_and_what_is_returned_is_new(self):
        for game, search in SEARCHED[:60] + SEARCHED[250::10]:
            for call in [values, answer_of, value_classes, edges_of_classes]:
                self.assert_new(call, game)
            self.assert_unchanged(check_answer, game, answer_of(game))
            self.assert_unchanged(check_answer, game, ([], [], []))
            self.assert_unchanged(is_best, game, search.ours[0], side="ours")
            self.assert_unchanged(is_best, game, search.theirs[0], side="theirs")

    def test_the_functions_stand_in_their_file(self):
        for name in ["values", "answer_of", "check_answer", "is_best", "value_classes", "edges_of_classes"]:
            self.assertEqual(getattr(crowns, name).__module__, "oddcrown.crowns")


class ValuesTest(oracles.CrownTestCase):
    def test_as_the_document_shows_it(self):
        self.assertEqual(values(SHOWN), [(2, 3), (0, 1), (1, 1)])

    def test_games_of_one_place(self):
        for mark in range(10):
            for place in [(mark, "draw", [((1, 1), 0)]), (mark, "ours", [0]), (mark, "theirs", [0, 0])]:
                self.assertEqual(values([place]), [(1 - mark % 2, 1)])

    def test_known_values(self):
        self.assertEqual(values(LEADING_BACK), [(1, 2), (1, 2), (1, 1), (0, 1)])
        self.assertEqual(values(LEADING_BACK_THEIRS), [(1, 2), (1, 2), (1, 1), (0, 1)])
        self.assertEqual(values(LEADING_ROUND), [(1, 2), (1, 2), (1, 2), (1, 1), (0, 1)])

    def test_against_all_pairs_of_strategies(self):
        for game, search in SEARCHED:
            told = values(game)
            self.assert_numbers(told)
            self.assertEqual(told, numbers(search.values))

    def test_walks_of_24_places_with_a_side_that_holds_back(self):
        walk = oracles.line(24, (498, 997))
        told = numbers(oracles.chances_of_winning(walk))
        self.assertEqual(values(walk), told)
        self.assertGreater(told[1][1], 10 ** 50)
        ours = walk[:12] + [(1, "ours", [12, 11, 13])] + walk[13:]
        up = walk[:12] + [(1, "draw", [((1, 1), 13)])] + walk[13:]
        self.assertEqual(values(ours), numbers(oracles.chances_of_winning(up)))


class AnswerTest(oracles.CrownTestCase):
    def assert_right(self, game, answer):
        """The answer is right by points 28 and 29, tried out without the program."""
        told, ours, theirs = answer
        self.assertIs(type(answer), tuple)
        self.assert_numbers(told)
        self.assertIsNone(check_strategy(game, "ours", ours))
        self.assertIsNone(check_strategy(game, "theirs", theirs))
        told = fractions(told)
        self.assertTrue(oracles.is_lower_by_definition(game, told, ours))
        self.assertTrue(oracles.is_upper_by_definition(game, told, theirs))

    def test_answers_of_small_games(self):
        for game, search in SEARCHED:
            told, ours, theirs = answer_of(game)
            self.assert_right(game, (told, ours, theirs))
            self.assertEqual(told, numbers(search.values))
            self.assertEqual(search.least[search.ours.index(ours)], search.values)
            self.assertEqual(search.greatest[search.theirs.index(theirs)], search.values)
            self.assertIs(check_answer(game, (told, ours, theirs)), True)

    def test_the_strategies_of_games_in_which_ties_matter(self):
        self.assertEqual(answer_of(LEADING_BACK)[1:], ([1, None, None, None], [None] * 4))
        self.assertEqual(answer_of(LEADING_BACK_THEIRS)[1:], ([None] * 4, [1, None, None, None]))
        self.assertIn(answer_of(LEADING_ROUND)[1],
                      [[0, 0, None, None, None], [1, 0, None, None, None], [1, 1, None, None, None]])

    def test_the_strategies_of_a_game_that_is_won_in_parts(self):
        told, _, theirs = answer_of(LEFT_BEHIND)
        self.assertEqual((told, theirs), ([(0, 1)] * 4, [1, 0, None, None]))
        told, ours, _ = answer_of(oracles.mirrored(LEFT_BEHIND))
        self.assertEqual((told, ours), ([(1, 1)] * 4, [1, 0, None, None]))

    def test_games_of_16_and_of_24_places(self):
        games = oracles.large_games(53, 60, 16) + oracles.large_games(54, 60, 24)
        for kinds in [("ours",), ("theirs",), ("draw",), ("ours", "theirs"), ("draw", "ours"), ("draw", "theirs")]:
            games += oracles.large_games(55, 8, 24, kinds)
        seconds = time.perf_counter()
        answers = [answer_of(game) for game in games]
        self.assertLess(time.perf_counter() - seconds, 20)
        parted = 0
        for game, answer in zip(games, answers):
            self.assertIs(check_answer(game, answer), True)
            self.assert_right(game, answer)
            parted += len(set(answer[0])) > 2
        self.assertGreater(parted, 50)

    def test_a_game_of_24_places_that_all_stand_in_one_class(self):
        # The sides go round in turn, and each has a branch to each of the next six places.
        game = [(x * 7 % 10, "theirs" if x % 2 else "ours", [(x + step) % 24 for step in range(1, 7)])
                for x in range(24)]
        self.assert_right(game, answer_of(game))
        game = [(x * 3 % 10, ("draw", "theirs", "ours")[x % 3], rest) for x, (_, _, rest) in enumerate(game)]
        game = [(mark, kind, list(zip([(1, 6)] * 6, rest)) if kind == "draw" else rest) for mark, kind, rest in game]
        self.assert_right(game, answer_of(game))


class CheckAnswerTest(oracles.CrownTestCase):
    def test_all_best_strategies_are_taken_and_no_others(self):
        for game, search in SEARCHED:
            told = numbers(search.values)
            best_ours = [ours for ours, least in zip(search.ours, search.least) if least == search.values]
            best_theirs = [theirs for theirs, most in zip(search.theirs, search.greatest) if most == search.values]
            self.assertTrue(best_ours and best_theirs)
            for ours in search.ours:
                self.assertIs(check_answer(game, (told, ours, best_theirs[0])), ours in best_ours)
            for theirs in search.theirs:
                self.assertIs(check_answer(game, (told, best_ours[-1], theirs)), theirs in best_theirs)

    def test_one_number_changed(self):
        for game, search in SEARCHED[:80] + SEARCHED[250::4]:
            told, ours, theirs = answer_of(game)
            for place, value in enumerate(search.values):
                for other in [value + HAIR, value - HAIR, 1 - value, value / 2, (value + 1) / 2, value + 1, value - 1]:
                    if other != value:
                        wrong = told[:place] + [number(other)] + told[place + 1:]
                        self.assertIs(check_answer(game, (wrong, ours, theirs)), False)

    def test_numbers_of_all_places_changed(self):
        for game in [LEADING_BACK, LEADING_BACK_THEIRS, LEADING_ROUND, SHOWN]:
            told, ours, theirs = answer_of(game)
            for wrong in [[(0, 1)] * len(game), [(1, 1)] * len(game), [(1, 2)] * len(game)]:
                self.assertIs(check_answer(game, (wrong, ours, theirs)), False)
            self.assertIs(check_answer(game, (told, ours, theirs)), True)

    def test_other_lengths(self):
        for game in [SHOWN, LEADING_BACK, LEADING_ROUND]:
            told, ours, theirs = answer_of(game)
            for wrong in [[], told[:-1], told[1:], told + [(0, 1)], told + [(1, 1)], told * 2]:
                self.assertIs(check_answer(game, (wrong, ours, theirs)), False)
            for wrong in [[], ours[:-1], ours + [None], ours + [0], ours * 2]:
                self.assertIs(check_answer(game, (told, wrong, theirs)), False)
            for wrong in [[], theirs[:-1], theirs + [None], theirs + [0], theirs * 2]:
                self.assertIs(check_answer(game, (told, ours, wrong)), False)
            self.assertIs(check_answer(game, ([], [], [])), False)

    def test_lists_that_are_no_strategies(self):
        for game in [SHOWN, LEADING_BACK, LEADING_BACK_THEIRS, LEADING_ROUND]:
            told, ours, theirs = answer_of(game)
            for place in range(len(game)):
                for wrong in [None, -1, 3, 6, 24, -2]:
                    one = ours[:place] + [wrong] + ours[place + 1:]
                    if one != ours:
                        self.assertIs(check_answer(game, (told, one, theirs)), False)
                    one = theirs[:place] + [wrong] + theirs[place + 1:]
                    if one != theirs:
                        self.assertIs(check_answer(game, (told, ours, one)), False)
                if ours[place] is None:
                    one = ours[:place] + [0] + ours[place + 1:]
                    self.assertIs(check_answer(game, (told, one, theirs)), False)
                if theirs[place] is None:
                    one = theirs[:place] + [0] + theirs[place + 1:]
                    self.assertIs(check_answer(game, (told, ours, one)), False)

    def test_the_strategies_exchanged(self):
        game = [(0, "ours", [1, 0]), (1, "theirs", [0, 1])]
        self.assertIs(check_answer(game, ([(1, 1), (0, 1)], [1, None], [None, 1])), True)
        self.assertIs(check_answer(game, ([(1, 1), (0, 1)], [None, 1], [1, None])), False)

    def test_a_branch_that_leads_back(self):
        told = [(1, 2), (1, 2), (1, 1), (0, 1)]
        self.assertIs(check_answer(LEADING_BACK, (told, [1, None, None, None], [None] * 4)), True)
        self.assertIs(check_answer(LEADING_BACK, (told, [0, None, None, None], [None] * 4)), False)
        self.assertIs(check_answer(LEADING_BACK_THEIRS, (told, [None] * 4, [1, None, None, None])), True)
        self.assertIs(check_answer(LEADING_BACK_THEIRS, (told, [None] * 4, [0, None, None, None])), False)
        told = values(LEADING_ROUND)
        for one in range(2):
            for other in range(2):
                ours = [one, other, None, None, None]
                self.assertIs(check_answer(LEADING_ROUND, (told, ours, [None] * 5)), (one, other) != (0, 1))


class IsBestTest(oracles.CrownTestCase):
    def test_against_all_strategies(self):
        for game, search in SEARCHED:
            for ours, least in zip(search.ours, search.least):
                self.assertIs(is_best(game, ours, side="ours"), least == search.values)
            for theirs, most in zip(search.theirs, search.greatest):
                self.assertIs(is_best(game, theirs, side="theirs"), most == search.values)

    def test_games_in_which_ties_matter(self):
        self.assertIs(is_best(LEADING_BACK, [1, None, None, None], side="ours"), True)
        self.assertIs(is_best(LEADING_BACK, [0, None, None, None], side="ours"), False)
        self.assertIs(is_best(LEADING_BACK_THEIRS, [1, None, None, None], side="theirs"), True)
        self.assertIs(is_best(LEADING_BACK_THEIRS, [0, None, None, None], side="theirs"), False)
        self.assertIs(is_best(LEADING_ROUND, [0, 1, None, None, None], side="ours"), False)
        self.assertIs(is_best(LEADING_ROUND, [1, 1, None, None, None], side="ours"), True)

    def test_the_strategy_of_a_side_without_places(self):
        for game in [LEADING_BACK, LEADING_ROUND]:
            self.assertIs(is_best(game, [None] * len(game), side="theirs"), True)
        self.assertIs(is_best(LEADING_BACK_THEIRS, [None] * 4, side="ours"), True)

    def test_games_of_24_places(self):
        rng = random.Random(56)
        for game in oracles.large_games(57, 20, 24):
            told, ours, theirs = answer_of(game)
            self.assertIs(is_best(game, ours, side="ours"), True)
            self.assertIs(is_best(game, theirs, side="theirs"), True)
            for side, best in [("ours", ours), ("theirs", theirs)]:
                tried = [rng.randrange(len(place[2])) if place[1] == side else None for place in game]
                other = (tried, theirs) if side == "ours" else (ours, tried)
                self.assertIs(is_best(game, tried, side=side), check_answer(game, (told,) + other))


class ClassesTest(oracles.CrownTestCase):
    def test_known_classes(self):
        self.assertEqual(value_classes(SHOWN), [((0, 1), [1]), ((2, 3), [0]), ((1, 1), [2])])
        self.assertEqual(edges_of_classes(SHOWN), [0])
        self.assertEqual(value_classes(LEADING_ROUND), [((0, 1), [4]), ((1, 2), [0, 1, 2]), ((1, 1), [3])])
        self.assertEqual(edges_of_classes(LEADING_ROUND), [2])
        self.assertEqual(value_classes([(0, "ours", [0])]), [((1, 1), [0])])
        self.assertEqual(edges_of_classes([(0, "ours", [0])]), [])
        self.assertEqual(edges_of_classes([(0, "draw", [((1, 1), 0)])]), [])

    def test_values_of_many_figures_stand_in_order(self):
        walk = oracles.line(24, (498, 997))
        self.assertEqual(value_classes(walk), [(value, [place]) for place, value in enumerate(values(walk))])
        self.assertEqual(edges_of_classes(walk), list(range(1, 23)))
        turned = [(mark, kind, [(chance, 23 - x) for chance, x in rest]) for mark, kind, rest in walk[::-1]]
        told = values(turned)
        self.assertEqual(value_classes(turned), [(told[place], [place]) for place in reversed(range(24))])

    def test_values_that_two_figures_do_not_tell_apart(self):
        stands = [(0, "draw", [((1, 1), 0)]), (1, "draw", [((1, 1), 1)])]
        game = stands + [(0, "draw", [((n, d), 0), ((d - n, d), 1)]) for n, d in [(997, 999), (499, 500), (998, 999),
                                                                                (1, 3), (1, 2), (333, 998), (1, 999)]]
        self.assertEqual(value_classes(game), [((0, 1), [1]), ((1, 999), [8]), ((1, 3), [5]), ((333, 998), [7]),
                                               ((1, 2), [6]), ((997, 999), [2]), ((499, 500), [3]), ((998, 999), [4]),
                                               ((1, 1), [0])])

    def test_by_definition(self):
        games = [game for game, _ in SEARCHED] + oracles.large_games(58, 20, 24)
        seen = 0
        for game in games:
            told = values(game)
            classes = value_classes(game)
            self.assertEqual([value for value, _ in classes], sorted(set(told), key=lambda value: Fraction(*value)))
            for value, places in classes:
                self.assertEqual(places, [place for place in range(len(game)) if told[place] == value])
            edges = edges_of_classes(game)
            self.assertEqual(edges, [place for place in range(len(game)) if game[place][1] == "draw"
                                     and any(told[x] != told[place] for x in oracles.steps_of(game[place]))])
            for place in edges:
                ahead = fractions([told[x] for x in oracles.steps_of(game[place])])
                self.assertTrue(min(ahead) < Fraction(*told[place]) < max(ahead))
            seen += len(edges)
        self.assertGreater(seen, 100)


if __name__ == "__main__":
    unittest.main()
