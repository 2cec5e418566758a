"""oddcrown.joining: points 68 to 70."""

import random
import time
import unittest
from fractions import Fraction

import oracles
from oddcrown import joining
from oddcrown.companies import company_mark
from oddcrown.crowns import values
from oddcrown.errors import BadMark, BadNumber
from oddcrown.games import check_game, reached, with_strategy
from oddcrown.joining import classes_of, kept_game, merged, turned_about
from oracles import companies_by_search, fractions, number, numbers

# 0 and 1 are alike, 2 and 3 are alike; 4 leads to both of the latter, and both of these lead to it.
ALIKE = [(3, "ours", [1, 2]), (3, "ours", [3, 0, 2]), (2, "draw", [((1, 3), 4), ((2, 3), 0)]),
         (2, "draw", [((1, 6), 4), ((1, 6), 4), ((1, 3), 1), ((1, 3), 0)]), (2, "draw", [((1, 4), 2), ((3, 4), 3)])]
GAMES = [ALIKE] + oracles.small_games(131, 100)


def divisions(size):
    """All divisions of so many places, as lists of numbers in the order of the least places."""
    found = [[]]
    for _ in range(size):
        found = [told + [number] for told in found for number in range(max(told, default=-1) + 2)]
    return found


def is_division_by_going(game, classes):
    """Whether any two places of one class have the same mark, kind and going (point 69)."""
    for one, (mark, kind, _) in enumerate(game):
        for other in range(one):
            if classes[one] == classes[other] and (
                    game[other][:2] != (mark, kind) or going(game, classes, one) != going(game, classes, other)):
                return False
    return True


def going(game, classes, place):
    _, kind, rest = game[place]
    if kind != "draw":
        return {classes[x] for x in rest}
    found = {}
    for chance, x in rest:
        found[classes[x]] = found.get(classes[x], 0) + Fraction(*chance)
    return found


def twofold(rng, game):
    """The game with each place twice, and branches that lead to any of the two."""
    size = len(game)
    found = []
    for mark, kind, rest in game + game:
        if kind == "draw":
            found.append((mark, kind, [(chance, x + rng.choice([0, size])) for chance, x in rest]))
        else:
            found.append((mark, kind, [x + rng.choice([0, size]) for x in rest]))
    return found


def in_pairs(rng, size):
    """A draw with two pairs of branches, each pair with the sum 1/2, so that other sums can be long."""
    rest = []
    for _ in range(2):
        d = rng.choice([2, 3, 4, 7, 8, 30, 211, 499])
        one = Fraction(rng.randint(1, max(1, (d - 1) // 2)), 2 * d)
        rest += [(number(one), rng.randrange(size)), (number(Fraction(1, 2) - one), rng.randrange(size))]
    return (rng.randrange(2), "draw", rest)


def merged_by_definition(game, classes):
    found = []
    for told in range(max(classes) + 1):
        place = classes.index(told)
        ahead = going(game, classes, place)
        mark, kind, _ = game[place]
        found.append((mark, kind, [(number(ahead[x]), x) for x in sorted(ahead)] if kind == "draw" else sorted(ahead)))
    return found


def kept_by_definition(game, company, side):
    found = []
    for place in company:
        mark, kind, rest = game[place]
        if kind == side:
            found.append((mark, kind, [company.index(x) for x in rest if x in company]))
        else:
            found.append((mark, kind, [(chance, company.index(x)) for chance, x in rest]))
    return found


class JoiningTest(oracles.CrownTestCase):
    def test_nothing_is_modified_and_what_is_returned_is_new(self):
        for game in GAMES[:50]:
            told = [(min(place[0], 8),) + place[1:] for place in game]
            self.assert_new(turned_about, told)
            self.assert_new(classes_of, game)
            self.assert_new(merged, game)
        company = [0, 1, 2]
        game = [(3, "ours", [0, 1]), (2, "draw", [((1, 2), 0), ((1, 2), 2)]), (0, "ours", [1, 2])]
        self.assert_new(kept_game, game, company, side="ours")

    def test_the_functions_stand_in_their_file(self):
        for name in ["turned_about", "kept_game", "classes_of", "merged"]:
            self.assertEqual(getattr(joining, name).__module__, "oddcrown.joining")

    def test_games_of_24_places(self):
        rng = random.Random(132)
        for _ in range(10):
            game = twofold(rng, oracles.random_game(rng, 12, branches=6))
            began = time.perf_counter()
            self.assertLessEqual(max(classes_of(game)), 11)
            merged(game)
            kept_game([(mark, "draw", rest) if kind == "draw" else (mark, "ours", rest) for mark, kind, rest in game],
                      list(range(24)), side="ours")
            self.assertLess(time.perf_counter() - began, 2)


class TurnedAboutTest(oracles.CrownTestCase):
    def test_place_by_place(self):
        game = [(0, "ours", [1, 2, 1]), (8, "theirs", [0]), (3, "draw", [((1, 3), 0), ((2, 3), 2)])]
        self.assertEqual(turned_about(game), [(1, "theirs", [1, 2, 1]), (9, "ours", [0]),
                                              (4, "draw", [((1, 3), 0), ((2, 3), 2)])])

    def test_bad_mark_exactly_if_a_mark_is_9(self):
        for mark in range(10):
            for game in [[(mark, "ours", [0])], [(3, "draw", [((1, 1), 1)]), (mark, "theirs", [0])]]:
                if mark == 9:
                    with self.assertRaises(BadMark):
                        turned_about(game)
                else:
                    self.assertEqual(turned_about(game)[-1][0], mark + 1)
        for game in GAMES:
            if any(place[0] == 9 for place in game):
                with self.assertRaises(BadMark):
                    turned_about(game)
            else:
                self.assertIsNone(check_game(turned_about(game)))

    def test_the_value_is_1_less_that_of_the_game(self):
        told = 0
        for game in GAMES + oracles.large_games(133, 30, 24):
            if max(place[0] for place in game) < 9:
                self.assertEqual([1 - value for value in fractions(values(turned_about(game)))],
                                 fractions(values(game)))
                told += 1
        self.assertGreater(told, 60)


class ClassesTest(oracles.CrownTestCase):
    def test_known_divisions(self):
        self.assertEqual(classes_of(ALIKE), [0, 0, 1, 1, 2])
        self.assertEqual(classes_of([(4,) + ALIKE[0][1:]] + ALIKE[1:]), [0, 1, 2, 3, 4])
        self.assertEqual(classes_of(oracles.ring(24)), [0] * 24)
        self.assertEqual(classes_of(oracles.ring(3) + [(0, "ours", [3]), (0, "theirs", [4])]), [0, 0, 0, 1, 2])

    def test_places_that_part_only_after_many_rounds(self):
        game = [(0, "ours", [x + 1]) for x in range(23)] + [(2, "ours", [23])]
        self.assertEqual(classes_of(game), list(range(24)))

    def test_against_all_divisions(self):
        joined = 0
        rng = random.Random(134)
        games = [game for game in GAMES if len(game) <= 6]
        for _ in range(60):
            games.append(twofold(rng, oracles.random_game(rng, 3, marks=2)))
            games.append(oracles.random_game(rng, 6, marks=1, branches=2))
        for game in games:
            right = [told for told in divisions(len(game)) if is_division_by_going(game, told)]
            coarsest = min(right, key=max)
            for told in right:
                # Each other one parts the classes of the coarsest one.
                self.assertEqual(len(set(zip(told, coarsest))), max(told) + 1)
            self.assertEqual(classes_of(game), coarsest)
            joined += max(coarsest) + 1 < len(game)
        self.assertGreater(joined, 60)

    def test_games_in_which_each_place_stands_twice(self):
        rng = random.Random(135)
        for _ in range(40):
            game = oracles.random_game(rng, rng.randint(1, 12), branches=6)
            told = twofold(rng, game)
            found = classes_of(told)
            self.assertEqual(found[:len(game)], found[len(game):])
            self.assertEqual(found[:len(game)], classes_of(game))


class MergedTest(oracles.CrownTestCase):
    def test_known_games(self):
        self.assertEqual(merged(ALIKE), [(3, "ours", [0, 1]), (2, "draw", [((2, 3), 0), ((1, 3), 2)]),
                                         (2, "draw", [((1, 1), 1)])])
        self.assertEqual(merged(oracles.ring(24)), [(0, "draw", [((1, 1), 0)])])
        self.assertEqual(merged([(0, "theirs", [1, 2, 2, 1]), (1, "draw", [((1, 2), 1), ((1, 2), 2)]),
                                 (1, "draw", [((1, 1), 1)])]),
                         [(0, "theirs", [1]), (1, "draw", [((1, 1), 1)])])

    def test_place_by_place(self):
        rng = random.Random(136)
        for game in GAMES + [twofold(rng, oracles.random_game(rng, 7)) for _ in range(30)]:
            found = merged(game)
            self.assertEqual(found, merged_by_definition(game, classes_of(game)))
            self.assertIsNone(check_game(found))
            self.assertEqual(classes_of(found), list(range(len(found))))

    def test_a_place_and_its_class_have_the_same_value(self):
        rng = random.Random(137)
        for game in GAMES + [twofold(rng, oracles.random_game(rng, 9)) for _ in range(30)]:
            told = values(merged(game))
            self.assertEqual([told[at] for at in classes_of(game)], values(game))
        for game in GAMES[:40]:
            told = oracles.Search(game).values
            self.assertEqual([values(merged(game))[at] for at in classes_of(game)], numbers(told))

    def test_bad_number_exactly_if_a_chance_would_not_be_short(self):
        stands = [(0, "draw", [((1, 1), 0)]), (0, "draw", [((1, 1), 1)]), (1, "draw", [((1, 1), 2)])]
        # 1/998 and 1/4 are 501/1996 together, which is not short.
        game = stands + [(0, "draw", [((1, 998), 0), ((1, 4), 1), ((1, 4), 2), ((249, 499), 2)])]
        self.assertIsNone(check_game(game))
        self.assertEqual(classes_of(game), [0, 0, 1, 2])
        with self.assertRaises(BadNumber):
            merged(game)
        # If the first two places are not alike, only the sum for the last one is too long.
        apart = [(2,) + stands[0][1:]] + game[1:]
        with self.assertRaises(BadNumber):
            merged(apart)
        apart = apart[:3] + [(0, "draw", [((1, 998), 0), ((1, 4), 1), ((1, 4), 1), ((249, 499), 2)])]
        self.assertEqual(merged(apart)[3], (0, "draw", [((1, 998), 0), ((1, 2), 1), ((249, 499), 2)]))

    def test_only_the_whole_chance_of_a_class_must_be_short(self):
        stands = [(0, "draw", [((1, 1), 0)]), (0, "draw", [((1, 1), 1)]), (1, "draw", [((1, 1), 2)])]
        # 1/998 and 1/4 are not short together, but they are with another 1/4.
        game = stands + [(0, "draw", [((1, 998), 0), ((1, 4), 1), ((1, 4), 0), ((249, 499), 2)])]
        self.assertEqual(merged(game), [(0, "draw", [((1, 1), 0)]), (1, "draw", [((1, 1), 1)]),
                                        (0, "draw", [((250, 499), 0), ((249, 499), 1)])])
        game = stands + [(0, "draw", [((1, 999), 0), ((1, 999), 1), ((997, 999), 2)])]
        self.assertEqual(merged(game)[2][2], [((2, 999), 0), ((997, 999), 1)])

    def test_bad_number_in_games_at_random(self):
        rng = random.Random(140)
        raised = 0
        for _ in range(300):
            game = [(mark, "draw", [((1, 1), x)]) for x, mark in enumerate([0, 0, 1])]
            game += [in_pairs(rng, 5) for _ in range(2)]
            self.assertIsNone(check_game(game))
            expected = merged_by_definition(game, classes_of(game))
            if all(max(chance) < 1000 for _, _, rest in expected for chance, _ in rest):
                self.assertEqual(merged(game), expected)
            else:
                raised += 1
                with self.assertRaises(BadNumber):
                    merged(game)
        self.assertTrue(50 < raised < 250)


class KeptGameTest(oracles.CrownTestCase):
    def test_known_games(self):
        game = [(3, "ours", [0, 1]), (2, "draw", [((1, 2), 0), ((1, 2), 3)]), (5, "draw", [((1, 1), 2)]),
                (4, "ours", [2, 3, 1, 3])]
        self.assertEqual(kept_game(game, [0, 1, 3], side="ours"),
                         [(3, "ours", [0, 1]), (2, "draw", [((1, 2), 0), ((1, 2), 2)]), (4, "ours", [2, 1, 2])])
        self.assertEqual(kept_game(game, [3], side="ours"), [(4, "ours", [0, 0])])
        self.assertEqual(kept_game(game, [2], side="theirs"), [(5, "draw", [((1, 1), 0)])])
        self.assertEqual(kept_game([(1, "draw", [((1, 1), 1)]), (6, "theirs", [2, 1, 1]), (8, "theirs", [0])], [1],
                                   side="theirs"), [(6, "theirs", [0, 0])])

    def test_companies_of_either_side(self):
        rng = random.Random(138)
        won = dict.fromkeys(["ours", "theirs"], 0)
        lost = dict(won)
        for game in oracles.small_games(139, 120, size=6):
            for side in ["ours", "theirs"]:
                other = oracles.OTHER[side]
                told = with_strategy(game, other, rng.choice(oracles.strategies(game, other)))
                for company in companies_by_search(told, range(len(game))):
                    kept = kept_game(told, company, side=side)
                    self.assertEqual(kept, kept_by_definition(told, company, side))
                    self.assertIsNone(check_game(kept))
                    for place in range(len(kept)):
                        self.assertEqual(reached(kept, place), list(range(len(kept))))
                    is_even = company_mark(told, company) % 2 == 0
                    if side == "ours" and is_even:
                        self.assertEqual(values(kept), [(1, 1)] * len(kept))
                    if side == "theirs" and not is_even:
                        self.assertEqual(values(kept), [(0, 1)] * len(kept))
                    won[side] += is_even == (side == "ours")
                    lost[side] += is_even != (side == "ours")
        self.assertGreater(min(list(won.values()) + list(lost.values())), 50)


if __name__ == "__main__":
    unittest.main()
