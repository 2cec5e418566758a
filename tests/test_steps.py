"""oddcrown.steps: points 60 to 62."""

import random
import time
import unittest
from fractions import Fraction

import oracles
from oddcrown import steps as module
from oddcrown.steps import first_marks, good_moves, values_of_steps
from oracles import fractions, numbers

SHOWN = [(1, "draw", [((1, 2), 0), ((1, 2), 1)]), (2, "draw", [((1, 1), 0)])]
# At 0 we keep to even marks as long as no odd one was greater: what is good depends on the greatest mark so far.
LOOKING_BACK = [(0, "ours", [1, 2, 1]), (3, "theirs", [0, 0]), (4, "draw", [((1, 2), 0), ((1, 2), 3)]),
                (5, "ours", [0, 3])]
CHAINS = [SHOWN] + oracles.small_chains(121, 80)
GAMES = [SHOWN, LOOKING_BACK] + oracles.small_games(122, 80)


def first_marks_by_plays(chain, place, steps):
    """The chances of the greatest marks, by going forth from the place."""
    found = {(place, chain[place][0]): Fraction(1)}
    for _ in range(steps):
        ahead = {}
        for (here, mark), worth in found.items():
            for chance, x in chain[here][2]:
                key = (x, max(mark, chain[x][0]))
                ahead[key] = ahead.get(key, 0) + worth * Fraction(*chance)
        found = ahead
    return [sum((worth for (_, mark), worth in found.items() if mark == told), Fraction(0)) for told in range(10)]


class Backwards:
    """What each place is worth, with the greatest mark so far and the steps to go (point 61)."""

    def __init__(self, game):
        self.game = game
        self.known = {}

    def ahead(self, place, greatest, steps):
        return [self.worth(x, max(greatest, self.game[x][0]), steps - 1) for x in oracles.steps_of(self.game[place])]

    def worth(self, place, greatest, steps):
        if steps == 0:
            return Fraction(1 - greatest % 2)
        key = (place, greatest, steps)
        if key not in self.known:
            _, kind, rest = self.game[place]
            told = self.ahead(place, greatest, steps)
            if kind == "draw":
                self.known[key] = sum(Fraction(*chance) * value for (chance, _), value in zip(rest, told))
            else:
                self.known[key] = max(told) if kind == "ours" else min(told)
        return self.known[key]

    def good(self, place, greatest, steps):
        if self.game[place][1] == "draw":
            return []
        best = self.worth(place, greatest, steps)
        return [branch for branch, value in enumerate(self.ahead(place, greatest, steps)) if value == best]


class StepsTest(oracles.CrownTestCase):
    def test_nothing_is_modified_and_what_is_returned_is_new(self):
        for chain in CHAINS[:30]:
            self.assert_new(first_marks, chain, 0, steps=3)
        for game in GAMES[:40]:
            self.assert_new(values_of_steps, game, steps=4)
            for place in range(len(game)):
                if game[place][1] == "draw":
                    self.assert_unchanged(good_moves, game, place, greatest=9, steps=2)
                else:
                    self.assert_new(good_moves, game, place, greatest=9, steps=2)

    def test_the_functions_stand_in_their_file(self):
        for name in ["first_marks", "values_of_steps", "good_moves"]:
            self.assertEqual(getattr(module, name).__module__, "oddcrown.steps")

    def test_games_of_24_places_and_30_steps(self):
        primes = [n for n in range(100, 1000) if all(n % d for d in range(2, n))][:48]
        chain = [(x * 7 % 10, "draw", [((1, d), (x + 1) % 24), ((d // 2, d), (x + 5) % 24), ((d - 1 - d // 2, d), x)])
                 for x, d in enumerate(primes[::2])]
        began = time.perf_counter()
        found = first_marks(chain, 0, steps=30)
        told = values_of_steps(chain, steps=30)
        self.assertLess(time.perf_counter() - began, 5)
        self.assertEqual(sum(fractions(found)), 1)
        self.assertEqual(sum(fractions(found)[::2]), Fraction(*told[0]))
        for game in oracles.large_games(123, 10, 24):
            began = time.perf_counter()
            told = values_of_steps(game, steps=30)
            for place in range(24):
                good_moves(game, place, greatest=9, steps=30)
            self.assertLess(time.perf_counter() - began, 5)
            self.assert_numbers(told)


class FirstMarksTest(oracles.CrownTestCase):
    def test_as_the_document_shows_it(self):
        self.assertEqual(first_marks(SHOWN, 0, steps=2), [(0, 1), (1, 4), (3, 4)] + [(0, 1)] * 7)

    def test_against_plays(self):
        for chain in CHAINS:
            for place in range(len(chain)):
                for steps in [0, 1, 2, 5, 30]:
                    found = first_marks(chain, place, steps=steps)
                    self.assert_numbers(found)
                    self.assertEqual(found, numbers(first_marks_by_plays(chain, place, steps)))
                    self.assertEqual(sum(fractions(found)), 1)
        for chain in oracles.large_games(124, 5, 24, ("draw",)):
            for steps in [1, 30]:
                self.assertEqual(first_marks(chain, 3, steps=steps), numbers(first_marks_by_plays(chain, 3, steps)))

    def test_no_steps(self):
        for mark in range(10):
            told = [(0, 1)] * mark + [(1, 1)] + [(0, 1)] * (9 - mark)
            self.assertEqual(first_marks([(mark, "draw", [((1, 1), 1)]), (9, "draw", [((1, 1), 0)])], 0, steps=0), told)

    def test_the_last_place_counts_and_the_one_behind_it_does_not(self):
        chain = [(mark, "draw", [((1, 1), min(mark + 1, 9))]) for mark in range(10)]
        for steps in range(10):
            self.assertEqual(first_marks(chain, 0, steps=steps).index((1, 1)), steps)
        self.assertEqual(first_marks(chain, 4, steps=3).index((1, 1)), 7)

    def test_the_first_place_counts(self):
        chain = [(8, "draw", [((1, 1), 1)]), (3, "draw", [((1, 1), 1)])]
        for steps in [0, 1, 30]:
            self.assertEqual(first_marks(chain, 0, steps=steps)[8], (1, 1))
            self.assertEqual(first_marks(chain, 1, steps=steps)[3], (1, 1))


class ValuesOfStepsTest(oracles.CrownTestCase):
    def test_by_definition(self):
        between = 0
        for game in GAMES + oracles.large_games(125, 6, 24):
            search = Backwards(game)
            for steps in [0, 1, 2, 3, 7, 30]:
                found = values_of_steps(game, steps=steps)
                self.assert_numbers(found)
                expected = [search.worth(place, game[place][0], steps) for place in range(len(game))]
                self.assertEqual(found, numbers(expected))
                between += any(0 < value < 1 for value in expected)
        self.assertGreater(between, 50)

    def test_no_steps(self):
        for game in GAMES[:30]:
            self.assertEqual(values_of_steps(game, steps=0), [(1 - place[0] % 2, 1) for place in game])

    def test_chains_have_the_even_ones_of_the_first_marks(self):
        for chain in CHAINS[:40]:
            for steps in [0, 1, 4, 30]:
                told = [sum(fractions(first_marks(chain, place, steps=steps))[::2]) for place in range(len(chain))]
                self.assertEqual(values_of_steps(chain, steps=steps), numbers(told))

    def test_a_play_that_looks_back(self):
        # Behind the draw at 0 the mark 5 may have come; then we need 6 at 3, and otherwise must keep out of 7 at 4.
        game = [(0, "draw", [((1, 2), 1), ((1, 2), 2)]), (5, "draw", [((1, 1), 3)]), (0, "draw", [((1, 1), 3)]),
                (0, "ours", [4, 5]), (6, "draw", [((1, 3), 6), ((2, 3), 5)]), (0, "draw", [((1, 1), 5)]),
                (7, "draw", [((1, 1), 6)])]
        self.assertEqual(values_of_steps(game, steps=4)[0], (5, 6))
        self.assertEqual(good_moves(game, 3, greatest=5, steps=2), [0])
        self.assertEqual(good_moves(game, 3, greatest=0, steps=2), [1])

    def test_the_sides_choose(self):
        game = [(0, "ours", [1, 2]), (1, "theirs", [1, 2]), (2, "theirs", [2])]
        self.assertEqual(values_of_steps(game, steps=1), [(1, 1), (0, 1), (1, 1)])
        game = [(0, "theirs", [1, 2]), (1, "ours", [1, 2]), (2, "ours", [2])]
        self.assertEqual([values_of_steps(game, steps=steps)[0] for steps in range(3)], [(1, 1), (0, 1), (1, 1)])


class GoodMovesTest(oracles.CrownTestCase):
    def test_by_definition_for_every_greatest_mark(self):
        several = changing = 0
        for game in GAMES + oracles.large_games(126, 3, 24):
            search = Backwards(game)
            for place in range(len(game)):
                for steps in [1, 2, 5]:
                    told = []
                    for greatest in range(game[place][0], 10):
                        found = good_moves(game, place, greatest=greatest, steps=steps)
                        self.assertEqual(found, search.good(place, greatest, steps))
                        self.assertEqual(found == [], game[place][1] == "draw")
                        told.append(found)
                        several += len(found) > 1
                    changing += any(one != told[0] for one in told)
        self.assertGreater(several, 200)
        self.assertGreater(changing, 50)

    def test_thirty_steps(self):
        for game in GAMES[:20]:
            search = Backwards(game)
            for place in range(len(game)):
                greatest = game[place][0]
                self.assertEqual(good_moves(game, place, greatest=greatest, steps=30),
                                 search.good(place, greatest, 30))

    def test_several_good_moves_ascend(self):
        game = [(0, "ours", [1, 2, 3, 2, 0]), (1, "ours", [1]), (2, "theirs", [2]), (4, "draw", [((1, 1), 3)])]
        self.assertEqual(good_moves(game, 0, greatest=0, steps=1), [1, 2, 3, 4])
        self.assertEqual(good_moves(game, 0, greatest=3, steps=1), [2])
        self.assertEqual(good_moves(game, 0, greatest=9, steps=1), [0, 1, 2, 3, 4])
        told = [(0, "theirs") + game[0][2:]] + game[1:]
        self.assertEqual(good_moves(told, 0, greatest=0, steps=1), [0])
        self.assertEqual(good_moves(told, 0, greatest=3, steps=1), [0, 1, 3, 4])
        self.assertEqual(good_moves(told, 0, greatest=8, steps=1), [0, 1, 2, 3, 4])

    def test_a_draw_has_none(self):
        for greatest in range(1, 10):
            self.assertEqual(good_moves(SHOWN, 0, greatest=greatest, steps=1), [])

    def test_following_good_moves_gives_the_values(self):
        rng = random.Random(127)
        for game in GAMES[:40]:
            search = Backwards(game)
            for place in range(len(game)):
                greatest, here = game[place][0], place
                for steps in range(6, 0, -1):
                    before = search.worth(here, greatest, steps)
                    good = good_moves(game, here, greatest=greatest, steps=steps)
                    ahead = oracles.steps_of(game[here])
                    here = ahead[rng.choice(good)] if good else rng.choice(ahead)
                    greatest = max(greatest, game[here][0])
                    if good:
                        self.assertEqual(search.worth(here, greatest, steps - 1), before)


if __name__ == "__main__":
    unittest.main()
