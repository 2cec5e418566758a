"""oddcrown.leaks: points 49 to 53."""

import random
import time
import unittest
from fractions import Fraction

import oracles
from oddcrown import leaks
from oddcrown.crowns import is_best, values
from oddcrown.games import check_strategy
from oddcrown.leaks import are_leaking, distance_of, leak_of, leaking_strategies, leaking_values
from oracles import fractions, number, numbers

FAVOUR = [9, 7, 5, 3, 1, 0, 2, 4, 6, 8]
SHOWN = [(0, "draw", [((1, 1), 1)]), (1, "draw", [((1, 1), 0)])]
RATES = [(1, 2), (1, 3), (2, 5), (1, 100), (499, 999), (10 ** 20 + 1, 3 * 10 ** 20 + 5), (1, 10 ** 30)]
HAIR = Fraction(1, 10 ** 400)
# Two branches to places alike, and one to another place, for each side.
TIED = [(0, "ours", [3, 1, 2, 1]), (4, "draw", [((1, 1), 1)]), (4, "draw", [((1, 1), 2)]), (3, "draw", [((1, 1), 3)]),
        (0, "theirs", [1, 3, 3, 2])]
GAMES = [SHOWN, TIED] + oracles.small_games(101, 90, size=8)


def leaking_chances(game, choices, rate):
    """The chances of winning the leaking game if both sides choose as it is told."""
    rows = []
    for place, (mark, kind, rest) in enumerate(game):
        leak = Fraction(*rate) ** (10 - mark)
        ahead = rest if kind == "draw" else [((1, 1), rest[choices[place]])]
        row = [Fraction(int(place == x)) for x in range(len(game))] + [leak * (1 - mark % 2)]
        for chance, x in ahead:
            row[x] -= (1 - leak) * Fraction(*chance)
        rows.append(row)
    return oracles.solved(rows)


def joined(ours, theirs):
    return [one if other is None else other for one, other in zip(ours, theirs)]


def table_of(game, rate):
    """The chances of winning the leaking game with all pairs of strategies."""
    return [[leaking_chances(game, joined(ours, theirs), rate) for theirs in oracles.strategies(game, "theirs")]
            for ours in oracles.strategies(game, "ours")]


def values_by_search(game, rate):
    every = range(len(game))
    table = table_of(game, rate)
    least = [[min(chances[x] for chances in row) for x in every] for row in table]
    found = [max(chances[x] for chances in least) for x in every]
    greatest = [[max(row[at][x] for row in table) for x in every] for at in range(len(table[0]))]
    assert found == [min(chances[x] for chances in greatest) for x in every]
    return found


def fulfils(game, told, rate):
    """Whether the equation of point 50 holds at each place."""
    for place, (mark, kind, rest) in enumerate(game):
        if kind == "draw":
            ahead = sum(Fraction(*chance) * told[x] for chance, x in rest)
        else:
            ahead = (max if kind == "ours" else min)(told[x] for x in rest)
        leak = Fraction(*rate) ** (10 - mark)
        if told[place] != leak * (1 - mark % 2) + (1 - leak) * ahead:
            return False
    return True


def with_mark(game, place, mark):
    return game[:place] + [(mark,) + game[place][1:]] + game[place + 1:]


class LeaksTest(oracles.CrownTestCase):
    def test_nothing_is_modified_and_what_is_returned_is_new(self):
        for game in GAMES[:30]:
            for rate in RATES[:2] + RATES[-1:]:
                self.assert_new(leaking_values, game, rate=rate)
                self.assert_new(leaking_strategies, game, rate=rate)
                self.assert_unchanged(distance_of, game, rate=rate)
                self.assert_unchanged(are_leaking, game, leaking_values(game, rate=rate), rate=rate)
                self.assert_unchanged(are_leaking, game, [(1, 2)] * len(game), rate=rate)

    def test_the_functions_stand_in_their_file(self):
        for name in ["leak_of", "leaking_values", "are_leaking", "leaking_strategies", "distance_of"]:
            self.assertEqual(getattr(leaks, name).__module__, "oddcrown.leaks")

    def test_games_of_8_places_and_rates_of_many_figures(self):
        rng = random.Random(102)
        for rate in [(1, 2), (1, 10 ** 60), (10 ** 60 + 7, 10 ** 61 + 9)]:
            began = time.perf_counter()
            for _ in range(6):
                game = oracles.random_game(rng, 8, branches=6, most=150)
                told = leaking_values(game, rate=rate)
                self.assertIs(are_leaking(game, told, rate=rate), True)
                leaking_strategies(game, rate=rate)
                distance_of(game, rate=rate)
                self.assertTrue(fulfils(game, fractions(told), rate))
            self.assertLess(time.perf_counter() - began, 10)


class LeakOfTest(oracles.CrownTestCase):
    def test_every_mark(self):
        for rate in RATES + [(1, 999), (998, 1997), (1, 7 ** 50)]:
            for mark in range(10):
                found = leak_of(mark, rate=rate)
                self.assert_numbers([found])
                self.assertEqual(found, number(Fraction(*rate) ** (10 - mark)))

    def test_known_leaks(self):
        self.assertEqual([leak_of(mark, rate=(1, 2)) for mark in range(10)],
                         [(1, 2 ** power) for power in range(10, 0, -1)])
        self.assertEqual(leak_of(9, rate=(2, 5)), (2, 5))
        self.assertEqual(leak_of(8, rate=(2, 5)), (4, 25))


class LeakingValuesTest(oracles.CrownTestCase):
    def test_as_the_document_shows_it(self):
        self.assertEqual(leaking_values(SHOWN, rate=(1, 2)), [(512, 1535), (511, 1535)])

    def test_the_equations_at_each_place(self):
        kinds, sizes = set(), set()
        for game in GAMES:
            for rate in RATES:
                found = leaking_values(game, rate=rate)
                self.assert_numbers(found)
                self.assertEqual(len(found), len(game))
                self.assertTrue(fulfils(game, fractions(found), rate))
            kinds.add(tuple(sorted({kind for _, kind, _ in game})))
            sizes.add(len(game))
        self.assertIn(("draw", "ours", "theirs"), kinds)
        self.assertEqual(sizes, set(range(1, 9)))

    def test_against_all_pairs_of_strategies(self):
        rng = random.Random(103)
        for game in GAMES[:60]:
            for rate in [(1, 2), rng.choice(RATES[1:5])]:
                self.assertEqual(leaking_values(game, rate=rate), numbers(values_by_search(game, rate)))

    def test_games_of_one_place(self):
        for mark in range(10):
            for place in [(mark, "draw", [((1, 1), 0)]), (mark, "ours", [0]), (mark, "theirs", [0, 0])]:
                self.assertEqual(leaking_values([place], rate=(1, 3)), [(1 - mark % 2, 1)])

    def test_even_marks_alone_and_odd_marks_alone(self):
        for game in GAMES[:40]:
            for parity, value in [(0, (1, 1)), (1, (0, 1))]:
                told = [(mark // 2 * 2 + parity, kind, rest) for mark, kind, rest in game]
                for rate in RATES[::3]:
                    self.assertEqual(leaking_values(told, rate=rate), [value] * len(game))

    def test_sides_that_choose_anew_after_each_other(self):
        game = [(0, "ours", [1, 2, 3]), (1, "theirs", [0, 2, 4]), (2, "ours", [1, 5, 3]), (3, "theirs", [2, 0, 6]),
                (4, "draw", [((1, 2), 0), ((1, 2), 7)]), (5, "draw", [((2, 3), 1), ((1, 3), 6)]),
                (6, "theirs", [5, 4, 3]), (7, "ours", [6, 4, 0])]
        for marks in [[0, 1, 2, 3, 4, 5, 6, 7], [7, 6, 5, 4, 3, 2, 1, 0], [0, 9, 0, 9, 1, 8, 1, 8]]:
            told = [(mark,) + place[1:] for mark, place in zip(marks, game)]
            for rate in RATES:
                self.assertTrue(fulfils(told, fractions(leaking_values(told, rate=rate)), rate))


class AreLeakingTest(oracles.CrownTestCase):
    def test_the_leaking_values(self):
        for game in GAMES[:40]:
            for rate in RATES:
                self.assertIs(are_leaking(game, leaking_values(game, rate=rate), rate=rate), True)

    def test_one_number_changed_by_a_hair(self):
        for game in GAMES[:30]:
            told = leaking_values(game, rate=(1, 3))
            for place in range(len(game)):
                for change in [HAIR, -HAIR, Fraction(1), Fraction(-1, 2)]:
                    wrong = list(told)
                    wrong[place] = number(Fraction(*told[place]) + change)
                    self.assertIs(are_leaking(game, wrong, rate=(1, 3)), False)

    def test_other_lengths(self):
        for game in GAMES[:20]:
            told = leaking_values(game, rate=(1, 2))
            for wrong in [[], told[:-1], told[1:], told + told[-1:], told + [(0, 1)], told * 2]:
                self.assertIs(are_leaking(game, wrong, rate=(1, 2)), False)

    def test_those_of_another_rate(self):
        self.assertIs(are_leaking(SHOWN, leaking_values(SHOWN, rate=(1, 2)), rate=(1, 3)), False)
        seen = 0
        for game in GAMES:
            one, other = leaking_values(game, rate=(2, 5)), leaking_values(game, rate=(1, 3))
            self.assertIs(are_leaking(game, one, rate=(1, 3)), one == other)
            seen += one != other
        self.assertGreater(seen, 20)

    def test_those_of_other_strategies(self):
        seen = 0
        for game in GAMES[:40]:
            right = leaking_values(game, rate=(1, 2))
            for row in table_of(game, (1, 2)):
                for chances in row:
                    told = numbers(chances)
                    self.assertIs(are_leaking(game, told, rate=(1, 2)), told == right)
                    seen += told != right
        self.assertGreater(seen, 50)

    def test_all_numbers_alike(self):
        for value in [(0, 1), (1, 1), (1, 2), (-1, 1), (2, 1)]:
            self.assertIs(are_leaking(SHOWN, [value] * 2, rate=(1, 2)), False)


class LeakingStrategiesTest(oracles.CrownTestCase):
    def test_the_first_branch_to_a_greatest_or_least_target(self):
        tied = 0
        for game in GAMES:
            for rate in RATES:
                told = fractions(leaking_values(game, rate=rate))
                found = leaking_strategies(game, rate=rate)
                self.assertIs(type(found), tuple)
                ours, theirs = found
                for place, (_, kind, rest) in enumerate(game):
                    ahead = [] if kind == "draw" else [told[x] for x in rest]
                    self.assertEqual(ours[place], ahead.index(max(ahead)) if kind == "ours" else None)
                    self.assertEqual(theirs[place], ahead.index(min(ahead)) if kind == "theirs" else None)
                    best = max(ahead) if kind == "ours" else min(ahead, default=None)
                    tied += len({x for x, value in zip(rest, ahead) if value == best}) > 1
                self.assertIsNone(check_strategy(game, "ours", ours))
                self.assertIsNone(check_strategy(game, "theirs", theirs))
        self.assertGreater(tied, 20)

    def test_equal_targets(self):
        self.assertEqual(leaking_strategies(TIED, rate=(1, 2)), ([1, None, None, None, None], [None] * 4 + [1]))
        turned = [TIED[0][:2] + ([1, 2, 3],)] + TIED[1:4] + [TIED[4][:2] + ([2, 1, 3, 3],)]
        self.assertEqual(leaking_strategies(turned, rate=(1, 9)), ([0, None, None, None, None], [None] * 4 + [2]))

    def test_both_are_best_in_the_leaking_game(self):
        for game in GAMES[:50]:
            told = fractions(leaking_values(game, rate=(2, 5)))
            ours, theirs = leaking_strategies(game, rate=(2, 5))
            for other in oracles.strategies(game, "theirs"):
                chances = leaking_chances(game, joined(ours, other), (2, 5))
                self.assertTrue(all(one >= value for one, value in zip(chances, told)))
            for other in oracles.strategies(game, "ours"):
                chances = leaking_chances(game, joined(other, theirs), (2, 5))
                self.assertTrue(all(one <= value for one, value in zip(chances, told)))


class DistanceTest(oracles.CrownTestCase):
    def test_against_the_values_of_small_games(self):
        for game in GAMES[:70]:
            expected = oracles.Search(game).values
            for rate in RATES[:5]:
                told = fractions(leaking_values(game, rate=rate))
                found = distance_of(game, rate=rate)
                self.assert_numbers([found])
                self.assertEqual(found, number(max(abs(one - other) for one, other in zip(told, expected))))

    def test_known_distances(self):
        self.assertEqual(distance_of(SHOWN, rate=(1, 2)), (512, 1535))
        self.assertEqual(distance_of([(8, "ours", [0])], rate=(1, 2)), (0, 1))
        # Here the leaking values are less than the values.
        self.assertEqual(distance_of([(1, "ours", [1]), (2, "ours", [0])], rate=(1, 2)), (256, 767))

    def test_small_rates(self):
        for game in GAMES:
            rate = (1, 10 ** 40)
            self.assertLess(Fraction(*distance_of(game, rate=rate)), Fraction(1, 10 ** 20))
            ours, theirs = leaking_strategies(game, rate=rate)
            self.assertIs(is_best(game, ours, side="ours"), True)
            self.assertIs(is_best(game, theirs, side="theirs"), True)

    def test_a_rate_that_is_too_great(self):
        game = [(0, "draw", [((1, 1), 1)]), (1, "draw", [((1, 1), 2)]), (0, "draw", [((1, 1), 0)])]
        self.assertEqual(values(game), [(0, 1)] * 3)
        self.assertGreater(Fraction(*distance_of(game, rate=(1, 2))), Fraction(1, 2) - Fraction(1, 1000))
        self.assertLess(Fraction(*distance_of(game, rate=(1, 1000))), Fraction(1, 400))

    def test_marks_of_more_favour_lower_no_leaking_value(self):
        rng = random.Random(104)
        raised = 0
        for game in GAMES[:40]:
            place, rate = rng.randrange(len(game)), rng.choice(RATES)
            told = [fractions(leaking_values(with_mark(game, place, mark), rate=rate)) for mark in FAVOUR]
            for before, behind in zip(told, told[1:]):
                self.assertTrue(all(one <= other for one, other in zip(before, behind)))
                raised += before != behind
        self.assertGreater(raised, 100)


if __name__ == "__main__":
    unittest.main()
