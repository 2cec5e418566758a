"""oddcrown.against: points 27 to 31."""

import random
import unittest
from fractions import Fraction

import oracles
from oddcrown import against
from oddcrown.against import (are_numbers, greatest_against, is_lower, is_upper, least_against, shows_greatest,
                              shows_least)
from oddcrown.games import check_strategy, exchanged
from oracles import number, numbers

SHOWN = [(1, "ours", [0, 1]), (2, "draw", [((1, 2), 0), ((1, 2), 1)])]
# Each kind of place leads to a place that is won (3) and to one that is lost (4).
KINDS = [(1, "draw", [((1, 3), 3), ((2, 3), 4)]), (1, "ours", [3, 4]), (1, "theirs", [4, 3]),
         (2, "draw", [((1, 1), 3)]), (1, "draw", [((1, 1), 4)])]
HAIR = Fraction(1, 10 ** 60)
RANDOM = oracles.small_games(31, 120)
ALONE = oracles.small_games(32, 40, ("draw", "theirs")) + oracles.small_games(33, 40, ("draw", "ours"))
SEARCHED = [(game, oracles.Search(game)) for game in RANDOM + ALONE]


def no_strategy(game):
    return [None] * len(game)


def changed(told, place, change):
    return told[:place] + [told[place] + change] + told[place + 1:]


def trials(rng, right):
    """Lists of fractions that are near to the right ones, or made of the same ones, or all of one kind."""
    tried = [right, [Fraction(0)] * len(right), [Fraction(1)] * len(right), [Fraction(1, 2)] * len(right)]
    for _ in range(4):
        place = rng.randrange(len(right))
        tried.append(changed(right, place, rng.choice([HAIR, -HAIR])))
        tried.append(changed(right, place, rng.choice(right) - right[place]))
        tried.append([value * Fraction(rng.randint(0, 9), 9) for value in right])
        tried.append([1 - (1 - value) * Fraction(rng.randint(0, 9), 9) for value in right])
        tried.append([min(value, Fraction(rng.randint(0, 6), 6)) for value in right])
        tried.append([max(value, Fraction(rng.randint(0, 6), 6)) for value in right])
    return tried


def in_bounds(told):
    return all(0 <= value <= 1 for value in told)


class AgainstTest(oracles.CrownTestCase):
    def test_nothing_is_modified_and_what_is_returned_is_new(self):
        for game, search in SEARCHED[:40] + SEARCHED[120:]:
            ours, theirs = search.ours[-1], search.theirs[-1]
            self.assert_new(least_against, game, ours)
            self.assert_new(greatest_against, game, theirs)
            told = numbers(search.least[-1])
            self.assert_unchanged(are_numbers, game, told)
            self.assert_unchanged(is_lower, game, told, ours=ours)
            self.assert_unchanged(is_upper, game, told, theirs=theirs)
            self.assert_unchanged(shows_least, game, told, ours=ours, theirs=theirs)
            self.assert_unchanged(shows_greatest, game, told, ours=ours, theirs=theirs)

    def test_the_functions_stand_in_their_file(self):
        for name in ["are_numbers", "is_lower", "is_upper", "least_against", "greatest_against", "shows_least",
                     "shows_greatest"]:
            self.assertEqual(getattr(against, name).__module__, "oddcrown.against")


class AreNumbersTest(oracles.CrownTestCase):
    def test_numbers(self):
        for told in [[(0, 1), (1, 1)], [(1, 2), (1, 10 ** 60)], [(10 ** 60 - 1, 10 ** 60), (998, 999)]]:
            self.assertIs(are_numbers(SHOWN, told), True)
        self.assertIs(are_numbers(KINDS, [(0, 1)] * 5), True)

    def test_other_lengths(self):
        for told in [[], [(1, 2)], [(1, 2)] * 3, [(1, 1)] * 24]:
            self.assertIs(are_numbers(SHOWN, told), False)
        self.assertIs(are_numbers(KINDS, [(1, 2)] * 4), False)
        self.assertIs(are_numbers(KINDS, [(1, 2)] * 6), False)

    def test_numbers_below_0_and_above_1(self):
        for wrong in [(-1, 1), (2, 1), (3, 2), (-1, 2), (10 ** 60 + 1, 10 ** 60), (-1, 10 ** 60), (10 ** 60, 1)]:
            for place in range(5):
                told = [(1, 2)] * 5
                told[place] = wrong
                self.assertIs(are_numbers(KINDS, told), False)
            self.assertIs(are_numbers(SHOWN, [wrong, (1, 2)]), False)
            self.assertIs(are_numbers(SHOWN, [(1, 2), wrong]), False)


class BoundsTest(oracles.CrownTestCase):
    """Points 28 and 29, one bound and one company at a time."""

    def lower(self, told, ours=0):
        return is_lower(KINDS, told, ours=[None, ours, None, None, None])

    def upper(self, told, theirs=0):
        return is_upper(KINDS, told, theirs=[None, None, theirs, None, None])

    def test_the_chances_are_lower_and_upper_numbers(self):
        self.assertIs(self.lower([(1, 3), (1, 1), (0, 1), (1, 1), (0, 1)]), True)
        self.assertIs(self.lower([(1, 3), (0, 1), (0, 1), (1, 1), (0, 1)], 1), True)
        self.assertIs(self.upper([(1, 3), (1, 1), (0, 1), (1, 1), (0, 1)]), True)
        self.assertIs(self.upper([(1, 3), (1, 1), (1, 1), (1, 1), (0, 1)], 1), True)

    def test_lower_numbers_may_be_less(self):
        self.assertIs(self.lower([(0, 1)] * 5), True)
        self.assertIs(self.lower([(1, 3), (0, 1), (0, 1), (1, 1), (0, 1)]), True)
        self.assertIs(self.lower([(0, 1), (1, 2), (0, 1), (1, 2), (0, 1)]), True)
        self.assertIs(self.lower([(0, 1), (0, 1), (0, 1), (1, 10 ** 60), (0, 1)]), True)

    def test_upper_numbers_may_be_greater(self):
        self.assertIs(self.upper([(1, 1)] * 5), True)
        self.assertIs(self.upper([(1, 2), (1, 1), (1, 2), (1, 1), (1, 2)]), False)
        self.assertIs(self.upper([(2, 3), (1, 1), (0, 1), (1, 1), (0, 1)]), True)
        self.assertIs(self.upper([(1, 3), (1, 1), (1, 2), (1, 1), (0, 1)]), True)

    def test_lower_numbers_at_a_draw(self):
        self.assertIs(self.lower([number(Fraction(1, 3) + HAIR), (1, 1), (0, 1), (1, 1), (0, 1)]), False)
        self.assertIs(self.lower([number(Fraction(1, 3) - HAIR), (1, 1), (0, 1), (1, 1), (0, 1)]), True)
        self.assertIs(self.lower([(1, 3), (0, 1), (0, 1), number(1 - HAIR), (0, 1)]), False)

    def test_lower_numbers_at_ours(self):
        self.assertIs(self.lower([(0, 1), number(HAIR), (0, 1), (1, 1), (0, 1)], 1), False)
        self.assertIs(self.lower([(0, 1), number(HAIR), (0, 1), (1, 1), (0, 1)], 0), True)
        self.assertIs(self.lower([(0, 1), (1, 1), (0, 1), number(1 - HAIR), (0, 1)], 0), False)

    def test_lower_numbers_at_theirs(self):
        self.assertIs(self.lower([(0, 1), (0, 1), number(HAIR), (1, 1), (0, 1)]), False)
        game = [(0, "theirs", [1, 2, 3]), (2, "draw", [((1, 1), 1)]), (2, "draw", [((1, 1), 2)]), (2, "ours", [3])]
        for place in [1, 2, 3]:
            told = changed([Fraction(1, 2)] + [Fraction(1, 2)] * 3, place, -HAIR)
            self.assertIs(is_lower(game, numbers(told), ours=[None, None, None, 0]), False)
            told = changed([Fraction(1, 2)] + [Fraction(1, 2)] * 3, place, HAIR)
            self.assertIs(is_lower(game, numbers(told), ours=[None, None, None, 0]), True)

    def test_upper_numbers_at_a_draw(self):
        self.assertIs(self.upper([number(Fraction(1, 3) - HAIR), (1, 1), (0, 1), (1, 1), (0, 1)]), False)
        self.assertIs(self.upper([number(Fraction(1, 3) + HAIR), (1, 1), (0, 1), (1, 1), (0, 1)]), True)
        self.assertIs(self.upper([(1, 3), (1, 1), (1, 1), (1, 1), number(HAIR)]), False)

    def test_upper_numbers_at_theirs(self):
        self.assertIs(self.upper([(1, 3), (1, 1), number(1 - HAIR), (1, 1), (0, 1)], 1), False)
        self.assertIs(self.upper([(1, 3), (1, 1), number(1 - HAIR), (1, 1), (0, 1)], 0), True)

    def test_upper_numbers_at_ours(self):
        self.assertIs(self.upper([(1, 3), number(1 - HAIR), (0, 1), (1, 1), (0, 1)]), False)
        game = [(1, "ours", [1, 2, 3]), (1, "draw", [((1, 1), 1)]), (1, "draw", [((1, 1), 2)]), (1, "theirs", [3])]
        for place in [1, 2, 3]:
            told = changed([Fraction(1, 2)] * 4, place, HAIR)
            self.assertIs(is_upper(game, numbers(told), theirs=[None, None, None, 0]), False)
            told = changed([Fraction(1, 2)] * 4, place, -HAIR)
            self.assertIs(is_upper(game, numbers(told), theirs=[None, None, None, 0]), True)

    def test_lower_numbers_and_companies(self):
        stands = [(x, "draw", [((1, 1), x)]) for x in range(10)]
        for mark in range(10):
            told = [(0, 1)] * 10
            told[mark] = number(HAIR)
            self.assertIs(is_lower(stands, told, ours=no_strategy(stands)), mark % 2 == 0)
            told = [(1, 1)] * 10
            told[mark] = number(1 - HAIR)
            self.assertIs(is_upper(stands, told, theirs=no_strategy(stands)), mark % 2 == 1)

    def test_a_company_of_the_other_side_within_a_greater_one(self):
        # All places together have the mark 4, but the others can stay at the place 1.
        for odd, lower in [(3, False), (2, True), (5, False)]:
            game = [(4, "draw", [((1, 1), 1)]), (odd, "theirs", [1, 0])]
            for told in [(1, 2), (1, 1), number(HAIR)]:
                self.assertIs(is_lower(game, [told] * 2, ours=[None, None]), lower)
            self.assertIs(is_lower(game, [(0, 1)] * 2, ours=[None, None]), True)
        for even, upper in [(2, False), (3, True), (6, False)]:
            game = [(5, "draw", [((1, 1), 1)]), (even, "ours", [0, 1])]
            for told in [(1, 2), (0, 1), number(1 - HAIR)]:
                self.assertIs(is_upper(game, [told] * 2, theirs=[None, None]), upper)
            self.assertIs(is_upper(game, [(1, 1)] * 2, theirs=[None, None]), True)

    def test_a_company_that_only_the_strategy_keeps(self):
        game = [(1, "ours", [0, 1]), (2, "theirs", [1, 0])]
        self.assertIs(is_lower(game, [(1, 1), (1, 1)], ours=[1, None]), True)
        self.assertIs(is_lower(game, [(1, 1), (1, 1)], ours=[0, None]), False)
        self.assertIs(is_lower(game, [(0, 1), (0, 1)], ours=[0, None]), True)
        self.assertIs(is_upper(game, [(0, 1), (0, 1)], theirs=[None, 0]), False)
        self.assertIs(is_upper(game, [(0, 1), (0, 1)], theirs=[None, 1]), False)
        self.assertIs(is_upper([(3, "ours", [0, 1]), game[1]], [(0, 1), (0, 1)], theirs=[None, 1]), True)

    def test_numbers_of_other_lengths_and_beyond_0_and_1(self):
        for wrong in [[], [(1, 1)], [(1, 1)] * 3]:
            self.assertIs(is_lower(SHOWN, wrong, ours=[1, None]), False)
            self.assertIs(is_upper(SHOWN, wrong, theirs=[None, None]), False)
        self.assertIs(is_lower(SHOWN, [(0, 1), (-1, 1)], ours=[0, None]), False)
        self.assertIs(is_lower(SHOWN, [(-1, 1), (-1, 1)], ours=[1, None]), False)
        self.assertIs(is_lower(SHOWN, [(2, 1), (2, 1)], ours=[1, None]), False)
        self.assertIs(is_upper(SHOWN, [(2, 1), (2, 1)], theirs=[None, None]), False)
        self.assertIs(is_upper([(1, "ours", [0])], [(-1, 1)], theirs=[None]), False)
        self.assertIs(is_upper([(1, "ours", [0])], [(0, 1)], theirs=[None]), True)

    def test_numbers_that_are_tried(self):
        rng = random.Random(34)
        seen = {True: 0, False: 0}
        for game, search in SEARCHED:
            for _ in range(2):
                one, other = rng.randrange(len(search.ours)), rng.randrange(len(search.theirs))
                for told in trials(rng, search.least[one]):
                    right = in_bounds(told) and oracles.is_lower_by_definition(game, told, search.ours[one])
                    self.assertIs(is_lower(game, numbers(told), ours=search.ours[one]), right)
                    seen[right] += 1
                    if right:
                        self.assertTrue(all(here <= least for here, least in zip(told, search.least[one])))
                for told in trials(rng, search.greatest[other]):
                    right = in_bounds(told) and oracles.is_upper_by_definition(game, told, search.theirs[other])
                    self.assertIs(is_upper(game, numbers(told), theirs=search.theirs[other]), right)
                    seen[right] += 1
                    if right:
                        self.assertTrue(all(here >= most for here, most in zip(told, search.greatest[other])))
        self.assertGreater(min(seen.values()), 2000)


class LeastAndGreatestTest(oracles.CrownTestCase):
    def test_as_the_document_shows_it(self):
        self.assertEqual(least_against(SHOWN, [1, None]), ([(1, 1), (1, 1)], [None, None]))
        self.assertEqual(least_against(SHOWN, [0, None]), ([(0, 1), (0, 1)], [None, None]))
        self.assertEqual(greatest_against(SHOWN, [None, None]), ([(1, 1), (1, 1)], [1, None]))

    def test_known_chances(self):
        self.assertEqual(least_against(KINDS, [None, 0, None, None, None]),
                         ([(1, 3), (1, 1), (0, 1), (1, 1), (0, 1)], [None, None, 0, None, None]))
        self.assertEqual(least_against(KINDS, [None, 1, None, None, None])[0],
                         [(1, 3), (0, 1), (0, 1), (1, 1), (0, 1)])
        self.assertEqual(greatest_against(KINDS, [None, None, 1, None, None]),
                         ([(1, 3), (1, 1), (1, 1), (1, 1), (0, 1)], [None, 0, None, None, None]))

    def test_staying_is_not_coming(self):
        # The others win only if they go on; a branch back to the place itself looks as good as going on.
        game = [(2, "theirs", [0, 1]), (2, "draw", [((1, 2), 0), ((1, 4), 2), ((1, 4), 3)]),
                (1, "draw", [((1, 1), 2)]), (0, "draw", [((1, 1), 3)])]
        self.assertEqual(least_against(game, [None] * 4), ([(1, 2), (1, 2), (0, 1), (1, 1)], [1, None, None, None]))
        turned = [(mark + 1, kind, rest) for mark, kind, rest in exchanged(game)]
        self.assertEqual(greatest_against(turned, [None] * 4),
                         ([(1, 2), (1, 2), (1, 1), (0, 1)], [1, None, None, None]))

    def test_going_round_in_a_company_that_is_won(self):
        # The others must come to the place 2 again and again, by the place 1 and not by the place 3.
        game = [(0, "theirs", [3, 0, 1]), (0, "draw", [((1, 2), 0), ((1, 2), 2)]), (1, "theirs", [3, 0]),
                (2, "draw", [((1, 1), 0)])]
        chances, theirs = least_against(game, [None] * 4)
        self.assertEqual(chances, [(0, 1)] * 4)
        self.assertEqual(theirs, [2, None, 1, None])

    def test_against_all_strategies_of_the_other_side(self):
        for game, search in SEARCHED:
            for at, ours in enumerate(search.ours):
                told, theirs = least_against(game, ours)
                self.assertEqual(told, numbers(search.least[at]))
                self.assertIsNone(check_strategy(game, "theirs", theirs))
                self.assertEqual(search.table[at][search.theirs.index(theirs)], search.least[at])
            for at, theirs in enumerate(search.theirs):
                told, ours = greatest_against(game, theirs)
                self.assertEqual(told, numbers(search.greatest[at]))
                self.assertIsNone(check_strategy(game, "ours", ours))
                self.assertEqual(search.table[search.ours.index(ours)][at], search.greatest[at])

    def test_the_chances_are_bounds(self):
        for game, search in SEARCHED:
            for at, ours in enumerate(search.ours):
                self.assertIs(is_lower(game, numbers(search.least[at]), ours=ours), True)
            for at, theirs in enumerate(search.theirs):
                self.assertIs(is_upper(game, numbers(search.greatest[at]), theirs=theirs), True)

    def test_games_of_16_places(self):
        rng = random.Random(35)
        for game in oracles.large_games(36, 60, 16):
            ours = [rng.randrange(len(place[2])) if place[1] == "ours" else None for place in game]
            theirs = [rng.randrange(len(place[2])) if place[1] == "theirs" else None for place in game]
            told, reply = least_against(game, ours)
            self.assert_numbers(told)
            self.assertEqual(told, numbers(oracles.play_out(game, ours, reply)))
            self.assertIs(shows_least(game, told, ours=ours, theirs=reply), True)
            told = oracles.fractions(told)
            self.assertTrue(oracles.is_lower_by_definition(game, told, ours))
            self.assertTrue(oracles.is_upper_by_definition(oracles.put_in(game, "ours", ours), told, reply))
            told, reply = greatest_against(game, theirs)
            self.assert_numbers(told)
            self.assertEqual(told, numbers(oracles.play_out(game, reply, theirs)))
            self.assertIs(shows_greatest(game, told, ours=reply, theirs=theirs), True)
            told = oracles.fractions(told)
            self.assertTrue(oracles.is_upper_by_definition(game, told, theirs))
            self.assertTrue(oracles.is_lower_by_definition(oracles.put_in(game, "theirs", theirs), told, reply))

    def test_chances_of_many_figures(self):
        # A walk over 22 places whose least chance the others make by the branch that leads back.
        walk = oracles.line(24, (498, 997))
        game = walk[:12] + [(0, "theirs", [13, 11])] + walk[13:]
        back = walk[:12] + [(0, "draw", [((1, 1), 11)])] + walk[13:]
        told, reply = least_against(game, [None] * 24)
        self.assertEqual(told, numbers(oracles.chances_of_winning(back)))
        self.assertEqual(reply, [None] * 12 + [1] + [None] * 11)
        self.assertIs(shows_least(game, told, ours=[None] * 24, theirs=reply), True)
        self.assertEqual(told[:13], [(0, 1)] * 13)
        self.assertGreater(told[13][1], 10 ** 25)


class ShowsTest(oracles.CrownTestCase):
    def test_each_reply_shows_it_and_nothing_else_does(self):
        for game, search in SEARCHED:
            for at, ours in enumerate(search.ours[:6]):
                told = numbers(search.least[at])
                for reply, theirs in enumerate(search.theirs):
                    right = search.table[at][reply] == search.least[at]
                    self.assertIs(shows_least(game, told, ours=ours, theirs=theirs), right)
            for at, theirs in enumerate(search.theirs[:6]):
                told = numbers(search.greatest[at])
                for reply, ours in enumerate(search.ours):
                    right = search.table[reply][at] == search.greatest[at]
                    self.assertIs(shows_greatest(game, told, ours=ours, theirs=theirs), right)

    def test_other_numbers_show_nothing(self):
        rng = random.Random(37)
        for game, search in SEARCHED:
            one, other = rng.randrange(len(search.ours)), rng.randrange(len(search.theirs))
            ours, theirs = search.ours[one], search.theirs[other]
            for told in trials(rng, search.least[one]):
                if told != search.least[one]:
                    for reply in search.theirs[:8]:
                        self.assertIs(shows_least(game, numbers(told), ours=ours, theirs=reply), False)
            for told in trials(rng, search.greatest[other]):
                if told != search.greatest[other]:
                    for reply in search.ours[:8]:
                        self.assertIs(shows_greatest(game, numbers(told), ours=reply, theirs=theirs), False)

    def test_each_half_is_asked(self):
        # Lower numbers that are not upper ones, and upper ones that are not lower ones.
        ours, theirs = [None, 0, None, None, None], [None, None, 0, None, None]
        least = [(1, 3), (1, 1), (0, 1), (1, 1), (0, 1)]
        self.assertIs(shows_least(KINDS, least, ours=ours, theirs=theirs), True)
        self.assertIs(shows_least(KINDS, [(0, 1)] * 5, ours=ours, theirs=theirs), False)
        self.assertIs(shows_least(KINDS, [(1, 1)] * 5, ours=ours, theirs=theirs), False)
        self.assertIs(shows_greatest(KINDS, least, ours=ours, theirs=theirs), True)
        self.assertIs(shows_greatest(KINDS, [(0, 1)] * 5, ours=ours, theirs=theirs), False)
        self.assertIs(shows_greatest(KINDS, [(1, 1)] * 5, ours=ours, theirs=theirs), False)

    def test_the_strategy_that_is_told_is_put_in(self):
        # With a bad strategy of ours the least chances are below the values: no upper numbers of the game itself.
        bad, theirs = [None, 1, None, None, None], [None, None, 0, None, None]
        least = [(1, 3), (0, 1), (0, 1), (1, 1), (0, 1)]
        self.assertIs(is_upper(KINDS, least, theirs=theirs), False)
        self.assertIs(shows_least(KINDS, least, ours=bad, theirs=theirs), True)
        ours, bad = [None, 0, None, None, None], [None, None, 1, None, None]
        greatest = [(1, 3), (1, 1), (1, 1), (1, 1), (0, 1)]
        self.assertIs(is_lower(KINDS, greatest, ours=ours), False)
        self.assertIs(shows_greatest(KINDS, greatest, ours=ours, theirs=bad), True)

    def test_numbers_of_other_lengths_and_beyond_0_and_1(self):
        for wrong in [[], [(1, 1)], [(1, 1)] * 3, [(2, 1)] * 2, [(-1, 1)] * 2]:
            self.assertIs(shows_least(SHOWN, wrong, ours=[1, None], theirs=[None, None]), False)
            self.assertIs(shows_greatest(SHOWN, wrong, ours=[1, None], theirs=[None, None]), False)


if __name__ == "__main__":
    unittest.main()
