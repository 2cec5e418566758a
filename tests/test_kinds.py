"""oddcrown.kinds: points 43 to 48."""

import itertools
import random
import time
import unittest
from fractions import Fraction

import oracles
from oddcrown import kinds
from oddcrown.games import check_game, exchanged
from oddcrown.kinds import aim_values, is_fulfilled, opposite, ranks_to, ways_to, with_aim, within_steps
from oddcrown.surely import against_us
from oracles import fractions, lists_of, number, numbers

KINDS = ["reach", "stay", "again", "settle"]
SHOWN = [(0, "theirs", [1, 2]), (0, "ours", [0, 3]), (0, "draw", [((1, 3), 3), ((2, 3), 0)]),
         (0, "draw", [((1, 1), 2)])]
# From 0 we come to 2 with the chance 1/2 and to 3 otherwise; from 4 the others can keep out of all places but 4 and 5.
PARTED = [(5, "draw", [((1, 2), 1), ((1, 2), 3)]), (4, "ours", [1, 2]), (7, "theirs", [2]), (8, "draw", [((1, 1), 3)]),
          (9, "theirs", [5, 0]), (1, "draw", [((1, 3), 4), ((2, 3), 5)])]
GAMES = [SHOWN, PARTED] + oracles.small_games(81, 110)


def fulfilling(chain, aim):
    """The chance for each place of a chain that a play from there fulfils the aim."""
    kind, places = aim
    every = range(len(chain))
    if kind == "stay":
        others = [place for place in every if place not in places]
        return [1 - chance for chance in fulfilling(chain, ("reach", others))]
    if kind == "reach":
        chain = [(0, "draw", [((1, 1), x)]) if x in places else chain[x] for x in every]
        return oracles.chances_into(chain, places)
    classes = [told for told in oracles.classes_of(chain)
               if (any(x in places for x in told) if kind == "again" else all(x in places for x in told))]
    return oracles.chances_into(chain, [x for told in classes for x in told])


def aim_values_by_search(game, aim):
    """The greatest chance for each place with which we can be sure that the aim is fulfilled."""
    rows = []
    replies = oracles.strategies(game, "theirs")
    for ours in oracles.strategies(game, "ours"):
        told = oracles.put_in(game, "ours", ours)
        tried = [fulfilling(oracles.put_in(told, "theirs", theirs), aim) for theirs in replies]
        rows.append([min(chances) for chances in zip(*tried)])
    return [max(chances) for chances in zip(*rows)]


def some_lists(rng, size):
    """Lists of places: none, all, and others."""
    every = list(range(size))
    return [[], every] + [sorted(rng.sample(every, rng.randint(1, size))) for _ in range(3)]


def within_by_definition(game, places, steps):
    """Point 46."""
    chances = [Fraction(int(place in places)) for place in range(len(game))]
    for _ in range(steps):
        before = chances
        chances = []
        for place, (_, kind, rest) in enumerate(game):
            if place in places:
                chances.append(Fraction(1))
            elif kind == "draw":
                chances.append(sum(Fraction(*chance) * before[x] for chance, x in rest))
            else:
                chances.append((max if kind == "ours" else min)(before[x] for x in rest))
    return chances


class KindsTest(oracles.CrownTestCase):
    def test_nothing_is_modified_and_what_is_returned_is_new(self):
        rng = random.Random(82)
        for game in GAMES[:50]:
            for places in some_lists(rng, len(game)):
                for kind in KINDS:
                    aim = (kind, places)
                    self.assert_new(opposite, game, aim)
                    self.assert_new(with_aim, game, aim)
                    self.assert_new(aim_values, game, aim)
                    self.assert_unchanged(is_fulfilled, aim, [0], [0, 1])
                self.assert_new(within_steps, game, places, 3)
                self.assert_new(ranks_to, game, places)
                self.assert_new(ways_to, game, places)

    def test_the_functions_stand_in_their_file(self):
        for name in ["is_fulfilled", "opposite", "with_aim", "aim_values", "within_steps", "ranks_to", "ways_to"]:
            self.assertEqual(getattr(kinds, name).__module__, "oddcrown.kinds")


class PlaysTest(oracles.CrownTestCase):
    def assert_fulfilled(self, places, beginning, circle, right):
        """`right` tells of each of the four kinds whether the play fulfils it."""
        self.assertEqual([is_fulfilled((kind, places), beginning, circle) for kind in KINDS], right)

    def test_a_place_in_the_beginning_alone(self):
        self.assert_fulfilled([3], [3, 1], [0, 2], [True, False, False, False])
        self.assert_fulfilled([3], [0, 3], [2], [True, False, False, False])

    def test_a_place_in_the_circle_alone(self):
        self.assert_fulfilled([3], [0], [3], [True, False, True, True])
        self.assert_fulfilled([3], [0], [3, 1], [True, False, True, False])
        self.assert_fulfilled([3], [0, 1], [2, 1, 3], [True, False, True, False])
        self.assert_fulfilled([1, 3], [0], [3, 1], [True, False, True, True])

    def test_a_place_in_both(self):
        self.assert_fulfilled([3], [3], [3], [True, True, True, True])
        self.assert_fulfilled([3], [3], [3, 1], [True, False, True, False])
        self.assert_fulfilled([3], [0, 3], [3], [True, False, True, True])

    def test_a_place_in_none(self):
        self.assert_fulfilled([3], [0, 1], [2, 1], [False, False, False, False])

    def test_an_empty_beginning(self):
        self.assert_fulfilled([3], [], [3], [True, True, True, True])
        self.assert_fulfilled([3], [], [3, 1], [True, False, True, False])
        self.assert_fulfilled([3], [], [1], [False, False, False, False])

    def test_places_of_the_circle_that_occur_several_times(self):
        self.assert_fulfilled([3], [3, 3], [3, 3, 3], [True, True, True, True])
        self.assert_fulfilled([3], [], [3, 1, 3, 1], [True, False, True, False])
        self.assert_fulfilled([1, 3], [1, 1], [3, 1, 3, 1], [True, True, True, True])

    def test_aims_with_no_places_and_with_all_places(self):
        for beginning, circle in [([], [0]), ([0, 1], [2, 0]), ([2], [1, 1])]:
            self.assert_fulfilled([], beginning, circle, [False, False, False, False])
            self.assert_fulfilled([0, 1, 2], beginning, circle, [True, True, True, True])

    def test_each_is_true_or_false(self):
        for kind in KINDS:
            self.assertIs(is_fulfilled((kind, [1]), [], [1]), True)
            self.assertIs(is_fulfilled((kind, [1]), [], [0]), False)

    def test_the_opposite(self):
        self.assertEqual(opposite(SHOWN, ("reach", [1, 3])), ("stay", [0, 2]))
        self.assertEqual(opposite(SHOWN, ("stay", [])), ("reach", [0, 1, 2, 3]))
        self.assertEqual(opposite(SHOWN, ("again", [0, 1, 2, 3])), ("settle", []))
        self.assertEqual(opposite(SHOWN, ("settle", [2])), ("again", [0, 1, 3]))

    def test_the_opposite_of_the_opposite(self):
        for game in GAMES[:30]:
            for kind in KINDS:
                for places in lists_of(range(len(game))):
                    self.assertEqual(opposite(game, opposite(game, (kind, places))), (kind, places))

    def test_a_play_fulfils_the_opposite_if_it_does_not_fulfil_the_aim(self):
        game = oracles.ring(3)
        plays = [(list(beginning), list(circle)) for length in range(3) for size in range(1, 4)
                 for beginning in itertools.product(range(3), repeat=length)
                 for circle in itertools.product(range(3), repeat=size)]
        for kind in KINDS:
            for places in lists_of(range(3)):
                other = opposite(game, (kind, places))
                for beginning, circle in plays:
                    self.assertIs(is_fulfilled(other, beginning, circle),
                                  not is_fulfilled((kind, places), beginning, circle))


class WithAimTest(oracles.CrownTestCase):
    def test_as_the_document_shows_it(self):
        self.assertEqual(with_aim(SHOWN, ("reach", [3])),
                         [(1, "theirs", [1, 2]), (1, "ours", [0, 3]), (1, "draw", [((1, 3), 3), ((2, 3), 0)]),
                          (2, "draw", [((1, 1), 3)])])

    def test_each_kind(self):
        self.assertEqual(with_aim(SHOWN, ("stay", [0, 2, 3])),
                         [(2, "theirs", [1, 2]), (1, "draw", [((1, 1), 1)]), (2, "draw", [((1, 3), 3), ((2, 3), 0)]),
                          (2, "draw", [((1, 1), 2)])])
        self.assertEqual(with_aim(SHOWN, ("again", [1])),
                         [(1, "theirs", [1, 2]), (2, "ours", [0, 3]), (1, "draw", [((1, 3), 3), ((2, 3), 0)]),
                          (1, "draw", [((1, 1), 2)])])
        self.assertEqual(with_aim(SHOWN, ("settle", [0, 1])),
                         [(0, "theirs", [1, 2]), (0, "ours", [0, 3]), (1, "draw", [((1, 3), 3), ((2, 3), 0)]),
                          (1, "draw", [((1, 1), 2)])])

    def test_the_game_with_the_aim_is_a_game(self):
        for game in GAMES[:50]:
            for kind in KINDS:
                for places in lists_of(range(len(game)))[::3]:
                    self.assertIsNone(check_game(with_aim(game, (kind, places))))

    def test_values_against_all_pairs_of_strategies(self):
        rng = random.Random(83)
        between = dict.fromkeys(KINDS, 0)
        for game in GAMES:
            for places in some_lists(rng, len(game)):
                for kind in KINDS:
                    found = aim_values(game, (kind, places))
                    self.assert_numbers(found)
                    self.assertEqual(found, numbers(aim_values_by_search(game, (kind, places))))
                    between[kind] += any(0 < value < 1 for value in fractions(found))
        self.assertGreater(min(between.values()), 5)

    def test_values_without_places_and_with_all_places(self):
        for game in GAMES[:30]:
            for kind in KINDS:
                self.assertEqual(aim_values(game, (kind, [])), [(0, 1)] * len(game))
                self.assertEqual(aim_values(game, (kind, list(range(len(game))))), [(1, 1)] * len(game))

    def test_known_values(self):
        self.assertEqual(aim_values(PARTED, ("reach", [3])), [(1, 2), (0, 1), (0, 1), (1, 1), (0, 1), (0, 1)])
        self.assertEqual(aim_values(PARTED, ("settle", [2, 3])), [(1, 1), (1, 1), (1, 1), (1, 1), (0, 1), (0, 1)])
        self.assertEqual(aim_values(PARTED, ("stay", [0, 1, 2])), [(1, 2), (1, 1), (1, 1), (0, 1), (0, 1), (0, 1)])
        self.assertEqual(aim_values(PARTED, ("again", [2, 4])), [(1, 2), (1, 1), (1, 1), (0, 1), (1, 2), (1, 2)])

    def test_the_opposite_seen_by_the_other_side(self):
        rng = random.Random(84)
        for game in GAMES + oracles.large_games(85, 12, 16):
            for kind in KINDS:
                aim = (kind, rng.choice(some_lists(rng, len(game))))
                other = aim_values(exchanged(game), opposite(game, aim))
                self.assertEqual([1 - value for value in fractions(other)], fractions(aim_values(game, aim)))

    def test_games_of_16_places(self):
        rng = random.Random(86)
        began = time.perf_counter()
        for game in oracles.large_games(87, 20, 16):
            for kind in KINDS:
                aim_values(game, (kind, sorted(rng.sample(range(16), 5))))
        self.assertLess(time.perf_counter() - began, 10)


class WithinStepsTest(oracles.CrownTestCase):
    def test_as_the_document_shows_it(self):
        self.assertEqual(within_steps(SHOWN, [3], 3), [(1, 3), (1, 1), (5, 9), (1, 1)])

    def test_by_definition(self):
        rng = random.Random(88)
        for game in GAMES[:60] + oracles.large_games(89, 12, 24):
            for places in some_lists(rng, len(game)):
                before = [Fraction(0)] * len(game)
                for steps in range(13):
                    found = within_steps(game, places, steps)
                    self.assert_numbers(found)
                    told = within_by_definition(game, places, steps)
                    self.assertEqual(found, numbers(told))
                    # The chances never fall with the steps.
                    self.assertTrue(all(one <= other for one, other in zip(before, told)))
                    before = told
                self.assertTrue(all(one <= Fraction(*other)
                                    for one, other in zip(before, aim_values(game, ("reach", places)))))

    def test_no_steps_and_lists_with_no_places_and_with_all_places(self):
        for game in GAMES[:20]:
            size = len(game)
            for steps in [0, 1, 12]:
                self.assertEqual(within_steps(game, [], steps), [(0, 1)] * size)
                self.assertEqual(within_steps(game, list(range(size)), steps), [(1, 1)] * size)
            self.assertEqual(within_steps(game, [0], 0), [(1, 1)] + [(0, 1)] * (size - 1))

    def test_the_places_of_the_list_stay_reached(self):
        game = [(0, "draw", [((1, 1), 1)]), (0, "draw", [((1, 1), 1)])]
        for steps in range(13):
            self.assertEqual(within_steps(game, [0], steps), [(1, 1), (0, 1)])

    def test_coming_near_to_the_value(self):
        game = [(0, "draw", [((9, 10), 1), ((1, 10), 0)]), (0, "draw", [((1, 1), 1)])]
        self.assertEqual(within_steps(game, [1], 12)[0], number(1 - Fraction(1, 10 ** 12)))
        self.assertEqual(aim_values(game, ("reach", [1]))[0], (1, 1))

    def test_a_choice_that_depends_on_the_steps_that_are_left(self):
        # By 1 we come there at once or never, by 2 later but with a greater chance.
        game = [(0, "ours", [1, 2]), (0, "draw", [((1, 2), 4), ((1, 2), 5)]), (0, "draw", [((1, 1), 3)]),
                (0, "draw", [((2, 3), 4), ((1, 3), 5)]), (0, "ours", [4]), (0, "theirs", [5])]
        self.assertEqual([within_steps(game, [4], steps)[0] for steps in range(5)],
                         [(0, 1), (0, 1), (1, 2), (2, 3), (2, 3)])

    def test_many_figures_in_a_short_time(self):
        primes = [n for n in range(300, 1000) if all(n % d for d in range(2, n))][:24]
        game = [(0, "draw", [((1, d), (x + 1) % 24), ((d - 2, d), (x + 5) % 24), ((1, d), x)])
                for x, d in enumerate(primes)]
        began = time.perf_counter()
        found = within_steps(game, [0], 12)
        self.assertLess(time.perf_counter() - began, 2)
        self.assertEqual(found, numbers(within_by_definition(game, [0], 12)))


class RanksTest(oracles.CrownTestCase):
    def test_as_the_document_shows_it(self):
        self.assertEqual(ranks_to(SHOWN, [3]), [None, 1, None, 0])
        self.assertEqual(ranks_to(PARTED, [2, 3]), [2, 1, 0, 0, None, None])

    def test_the_least_number_of_steps_against_all_plays(self):
        rng = random.Random(90)
        seen = {}
        for game in GAMES + oracles.large_games(91, 20, 24):
            told = against_us(game)
            for places in some_lists(rng, len(game)):
                reaching = [within_by_definition(told, places, steps) for steps in range(len(game) + 1)]
                expected = [next((steps for steps, chances in enumerate(reaching) if chances[place] == 1), None)
                            for place in range(len(game))]
                found = ranks_to(game, places)
                self.assertEqual(found, expected)
                for rank in found:
                    seen[rank] = seen.get(rank, 0) + 1
        self.assertGreater(seen[None], 100)
        self.assertGreater(seen[2], 25)

    def test_lists_with_no_places_and_with_all_places(self):
        for game in GAMES[:30]:
            self.assertEqual(ranks_to(game, []), [None] * len(game))
            self.assertEqual(ranks_to(game, list(range(len(game)))), [0] * len(game))

    def test_a_long_way(self):
        for kind in ["ours", "theirs", "draw"]:
            game = oracles.ring(24, kind)
            self.assertEqual(ranks_to(game, [0]), [0] + list(range(23, 0, -1)))
            self.assertEqual(ways_to(game, [0]), [0] + list(range(23, 0, -1)))

    def test_a_place_that_can_keep_out_for_ever(self):
        for kind, rank in [("ours", 1), ("theirs", None)]:
            self.assertEqual(ranks_to([(0, kind, [0, 1]), (0, kind, [0])], [1])[0], rank)
        self.assertEqual(ranks_to([(0, "draw", [((1, 999), 0), ((998, 999), 1)]), (0, "ours", [0])], [1])[0], None)


class WaysTest(oracles.CrownTestCase):
    def test_known_ways(self):
        self.assertEqual(ways_to(SHOWN, [3]), [2, 1, 1, 0])
        self.assertEqual(ways_to(PARTED, [2]), [2, 1, 0, None, 3, 4])

    def test_the_least_number_of_steps_of_a_play(self):
        rng = random.Random(92)
        for game in GAMES + oracles.large_games(93, 12, 24):
            for places in some_lists(rng, len(game)):
                found = ways_to(game, places)
                for place in range(len(game)):
                    at, steps = {place}, 0
                    while not at & set(places) and steps <= len(game):
                        at = {x for here in at for x in oracles.steps_of(game[here])}
                        steps += 1
                    self.assertEqual(found[place], steps if at & set(places) else None)
                self.assertEqual(ways_to(game, []), [None] * len(game))

    def test_the_value_is_above_0_only_where_there_is_a_way(self):
        rng = random.Random(94)
        for game in GAMES:
            for places in some_lists(rng, len(game)):
                ways, ranks = ways_to(game, places), ranks_to(game, places)
                for value, way, rank in zip(aim_values(game, ("reach", places)), ways, ranks):
                    self.assertTrue(value == (0, 1) or way is not None)
                    self.assertTrue(rank is None or value == (1, 1) and way <= rank)


if __name__ == "__main__":
    unittest.main()
