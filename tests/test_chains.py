"""oddcrown.chains: points 14 to 20."""

import unittest
from fractions import Fraction

import oracles
from oddcrown import chains
from oddcrown.chains import (are_winning, closed_classes, long_gains, long_shares, mark_chances, returning,
                             steps_to_rest, winning_chances)
from oracles import fractions, line, number, numbers, ring

ONE_PLACE = [(4, "draw", [((1, 1), 0)])]
FORK = [(1, "draw", [((1, 2), 1), ((1, 2), 2)]), (2, "draw", [((1, 1), 1)]), (3, "draw", [((1, 1), 2)])]
# Two classes that lie within each other's places, a class of one place, and two places of no class.
LACED = [(9, "draw", [((1, 3), 1), ((1, 3), 2), ((1, 3), 6)]), (3, "draw", [((2, 5), 3), ((3, 5), 3)]),
         (2, "draw", [((1, 1), 4)]), (4, "draw", [((1, 4), 3), ((3, 4), 1)]), (1, "draw", [((1, 2), 2), ((1, 2), 4)]),
         (7, "draw", [((1, 1), 5)]), (8, "draw", [((1, 6), 0), ((1, 6), 5), ((2, 3), 6)])]
STAND = [(x % 10, "draw", [((1, 1), x)]) for x in range(24)]
HAIR = Fraction(1, 10 ** 40)
EXAMPLES = [ONE_PLACE, FORK, LACED, STAND, ring(1), ring(24), line(24, (1, 2)), line(24, (498, 997)), line(3, (1, 999))]
RANDOM = oracles.small_chains(14, 150) + oracles.large_games(15, 12, 24, ("draw",))


def mean_ahead(chain, place, told):
    return sum(Fraction(*chance) * told[x] for chance, x in chain[place][2])


class ChainsTest(oracles.CrownTestCase):
    def test_nothing_is_modified_and_what_is_returned_is_new(self):
        for chain in [ONE_PLACE, FORK, LACED]:
            for call in [closed_classes, winning_chances, steps_to_rest, long_gains]:
                self.assert_new(call, chain)
            for place in range(len(chain)):
                self.assert_new(mark_chances, chain, place)
                self.assert_new(long_shares, chain, place)
                self.assert_unchanged(returning, chain, place)
            self.assert_unchanged(are_winning, chain, winning_chances(chain))
            self.assert_unchanged(are_winning, chain, [])

    def test_the_functions_stand_in_their_file(self):
        for name in ["closed_classes", "winning_chances", "are_winning", "mark_chances", "long_shares", "returning",
                     "steps_to_rest", "long_gains"]:
            self.assertEqual(getattr(chains, name).__module__, "oddcrown.chains")


class ClosedClassesTest(oracles.CrownTestCase):
    def test_known_classes(self):
        self.assertEqual(closed_classes(ONE_PLACE), [[0]])
        self.assertEqual(closed_classes(FORK), [[1], [2]])
        self.assertEqual(closed_classes(LACED), [[1, 3], [2, 4], [5]])
        self.assertEqual(closed_classes(STAND), [[x] for x in range(24)])
        self.assertEqual(closed_classes(ring(24)), [list(range(24))])
        self.assertEqual(closed_classes(line(24, (1, 2))), [[0], [23]])

    def test_classes_stand_in_the_order_of_their_first_places(self):
        told = [(0, "draw", [((1, 1), x)]) for x in [23 - x for x in range(24)]]
        self.assertEqual(closed_classes(told), [[x, 23 - x] for x in range(12)])
        told = [(0, "draw", [((1, 1), x)]) for x in [5, 4, 3, 2, 1, 0]]
        self.assertEqual(closed_classes(told), [[0, 5], [1, 4], [2, 3]])

    def test_a_row_of_places_ends_in_the_last_one(self):
        down = [(0, "draw", [((1, 1), min(x + 1, 23))]) for x in range(24)]
        self.assertEqual(closed_classes(down), [[23]])
        up = [(0, "draw", [((1, 1), max(x - 1, 0))]) for x in range(24)]
        self.assertEqual(closed_classes(up), [[0]])

    def test_against_all_lists_of_places(self):
        for chain in oracles.small_chains(16, 120):
            told = []
            for places in oracles.lists_of(range(len(chain))):
                if places and all(oracles.reached_from(chain, x) == set(places) for x in places):
                    told.append(places)
            self.assertEqual(closed_classes(chain), sorted(told, key=lambda places: places[0]))


class WinningChancesTest(oracles.CrownTestCase):
    def test_known_chances(self):
        self.assertEqual(winning_chances(FORK), [(1, 2), (1, 1), (0, 1)])
        self.assertEqual(winning_chances(ONE_PLACE), [(1, 1)])
        self.assertEqual(winning_chances(ring(24, mark=5)), [(0, 1)] * 24)
        self.assertEqual(winning_chances(STAND), [((x + 1) % 2, 1) for x in range(24)])
        self.assertEqual(winning_chances(LACED), [(4, 5), (1, 1), (1, 1), (1, 1), (1, 1), (0, 1), (2, 5)])

    def test_the_greatest_mark_of_a_class_tells(self):
        for odd, even, won in [(1, 2, 1), (3, 2, 0), (9, 8, 0), (7, 8, 1), (1, 0, 0)]:
            for pair in [(odd, even), (even, odd)]:
                chain = [(pair[0], "draw", [((1, 1), 1)]), (pair[1], "draw", [((1, 999), 1), ((998, 999), 0)])]
                self.assertEqual(winning_chances(chain), [(won, 1)] * 2)

    def test_marks_of_places_of_no_class_do_not_matter(self):
        for mark in range(10):
            self.assertEqual(winning_chances([(mark, "draw", FORK[0][2])] + FORK[1:]), [(1, 2), (1, 1), (0, 1)])

    def test_fair_walks_on_a_line(self):
        for size in [2, 3, 5, 10, 24]:
            self.assertEqual(winning_chances(line(size, (1, 2))), numbers([Fraction(x, size - 1) for x in range(size)]))

    def test_walks_with_chances_of_three_figures(self):
        for up in [(1, 999), (998, 999), (498, 997), (333, 500), (1, 3)]:
            odds = (1 - Fraction(*up)) / Fraction(*up)
            for size in [3, 9, 24]:
                told = [(1 - odds ** x) / (1 - odds ** (size - 1)) for x in range(size)]
                self.assertEqual(winning_chances(line(size, up)), numbers(told))

    def test_chances_that_are_added_up(self):
        chain = [(0, "draw", [((1, 6), 1), ((1, 3), 2), ((1, 6), 1), ((1, 6), 0), ((1, 6), 2)])] + FORK[1:]
        self.assertEqual(winning_chances(chain), [(2, 5), (1, 1), (0, 1)])

    def test_the_equations_at_each_place(self):
        for chain in EXAMPLES + RANDOM:
            told = winning_chances(chain)
            self.assert_numbers(told)
            told = fractions(told)
            for places in oracles.classes_of(chain):
                won = max(chain[x][0] for x in places) % 2 == 0
                self.assertEqual([told[x] for x in places], [int(won)] * len(places))
            for place in range(len(chain)):
                self.assertEqual(told[place], mean_ahead(chain, place, told))

    def test_against_plain_search(self):
        for chain in EXAMPLES + RANDOM:
            self.assertEqual(winning_chances(chain), numbers(oracles.chances_of_winning(chain)))


class AreWinningTest(oracles.CrownTestCase):
    def test_the_winning_chances(self):
        for chain in EXAMPLES + RANDOM[:60]:
            self.assertIs(are_winning(chain, winning_chances(chain)), True)

    def test_one_number_changed_by_a_hair(self):
        for chain in [FORK, LACED, line(24, (498, 997)), ring(3), STAND]:
            right = fractions(winning_chances(chain))
            for place in range(len(chain)):
                for change in [HAIR, -HAIR]:
                    wrong = right[:place] + [right[place] + change] + right[place + 1:]
                    self.assertIs(are_winning(chain, numbers(wrong)), False)

    def test_other_lengths(self):
        for chain in [ONE_PLACE, FORK, LACED]:
            right = winning_chances(chain)
            for wrong in [[], right[:-1], right[1:], right + [(0, 1)], right + [(1, 1)], right * 2]:
                self.assertIs(are_winning(chain, wrong), False)

    def test_numbers_beyond_0_and_1(self):
        for wrong in [[(1, 2), (2, 1), (-1, 1)], [(1, 2), (2, 1), (0, 1)], [(-1, 2), (1, 1), (0, 1)],
                      [(3, 2), (1, 1), (0, 1)], [(10 ** 50, 1), (1, 1), (0, 1)], [(1, 2), (1, 1), (-1, 10 ** 50)]]:
            self.assertIs(are_winning(FORK, wrong), False)

    def test_lists_that_fulfil_the_equations_but_not_at_closed_classes(self):
        for chain in [FORK, LACED, line(24, (1, 2))]:
            for wrong in [[(0, 1)] * len(chain), [(1, 1)] * len(chain), [(1, 2)] * len(chain)]:
                self.assertIs(are_winning(chain, wrong), False)
            exchanged = numbers([1 - value for value in fractions(winning_chances(chain))])
            self.assertIs(are_winning(chain, exchanged), False)
        self.assertIs(are_winning(ring(4), [(0, 1)] * 4), False)
        self.assertIs(are_winning(ring(4, mark=1), [(1, 1)] * 4), False)


class MarkChancesTest(oracles.CrownTestCase):
    def test_known_chances(self):
        nothing = [(0, 1)] * 10
        self.assertEqual(mark_chances(ONE_PLACE, 0), nothing[:4] + [(1, 1)] + nothing[5:])
        self.assertEqual(mark_chances(FORK, 0), nothing[:2] + [(1, 2), (1, 2)] + nothing[4:])
        self.assertEqual(mark_chances(FORK, 2), nothing[:3] + [(1, 1)] + nothing[4:])
        self.assertEqual(mark_chances(LACED, 0),
                         [(0, 1), (0, 1), (2, 5), (0, 1), (2, 5), (0, 1), (0, 1), (1, 5), (0, 1), (0, 1)])

    def test_each_mark_has_its_place(self):
        for mark in range(10):
            told = [(1, 1) if at == mark else (0, 1) for at in range(10)]
            self.assertEqual(mark_chances([(0, "draw", [((1, 1), 1)]), (mark, "draw", [((1, 1), 1)])], 0), told)

    def test_classes_with_the_same_mark_are_added_up(self):
        chain = [(9, "draw", [((1, 2), 1), ((1, 3), 2), ((1, 6), 3)]), (6, "draw", [((1, 1), 1)]),
                 (3, "draw", [((1, 1), 2)]), (6, "draw", [((1, 1), 3)])]
        self.assertEqual(mark_chances(chain, 0), [(0, 1)] * 3 + [(1, 3), (0, 1), (0, 1), (2, 3)] + [(0, 1)] * 3)

    def test_the_sums(self):
        for chain in EXAMPLES + RANDOM[:60] + RANDOM[-10:]:
            won = winning_chances(chain)
            for place in range(len(chain)):
                told = mark_chances(chain, place)
                self.assertEqual(len(told), 10)
                self.assert_numbers(told)
                self.assertEqual(sum(fractions(told)), 1)
                self.assertEqual(number(sum(fractions(told[0::2]))), won[place])

    def test_against_plain_search(self):
        for chain in [LACED] + RANDOM[:60]:
            classes = oracles.classes_of(chain)
            told = [mark_chances(chain, place) for place in range(len(chain))]
            for mark in range(10):
                chosen = [x for places in classes for x in places if max(chain[y][0] for y in places) == mark]
                self.assertEqual([row[mark] for row in told], numbers(oracles.chances_into(chain, chosen)))


class LongSharesTest(oracles.CrownTestCase):
    def test_known_shares(self):
        self.assertEqual(long_shares(ONE_PLACE, 0), [(1, 1)])
        self.assertEqual(long_shares(FORK, 0), [(0, 1), (1, 2), (1, 2)])
        self.assertEqual(long_shares(FORK, 1), [(0, 1), (1, 1), (0, 1)])
        self.assertEqual(long_shares(LACED, 1), [(0, 1), (3, 7), (0, 1), (4, 7), (0, 1), (0, 1), (0, 1)])
        self.assertEqual(long_shares(LACED, 4), [(0, 1), (0, 1), (1, 3), (0, 1), (2, 3), (0, 1), (0, 1)])
        self.assertEqual(long_shares(LACED, 0),
                         [(0, 1), (6, 35), (2, 15), (8, 35), (4, 15), (1, 5), (0, 1)])

    def test_a_ring_of_24_places(self):
        for place in range(24):
            self.assertEqual(long_shares(ring(24), place), [(1, 24)] * 24)
            self.assertEqual(returning(ring(24), place), (24, 1))

    def test_a_ring_whose_places_hold_the_play(self):
        held = [(0, "draw", [((x, x + 1), x), ((1, x + 1), (x + 1) % 24)] if x else [((1, 1), 1)]) for x in range(24)]
        self.assertEqual(long_shares(held, 7), numbers([Fraction(x + 1, 300) for x in range(24)]))
        self.assertEqual([returning(held, x) for x in range(24)], numbers([Fraction(300, x + 1) for x in range(24)]))

    def test_the_equations(self):
        for chain in EXAMPLES + RANDOM:
            classes = oracles.classes_of(chain)
            chances = [oracles.chances_into(chain, places) for places in classes]
            for place in range(0, len(chain), 5):
                told = long_shares(chain, place)
                self.assert_numbers(told)
                told = fractions(told)
                self.assertEqual(len(told), len(chain))
                self.assertEqual(sum(told), 1)
                for at, places in enumerate(classes):
                    chance = chances[at][place]
                    self.assertEqual(sum(told[x] for x in places), chance)
                    self.assertEqual([told[x] > 0 for x in places], [chance > 0] * len(places))
                    for here in places:
                        arriving = sum(told[x] * Fraction(*step) for x in places for step, y in chain[x][2]
                                       if y == here)
                        self.assertEqual(told[here], arriving)
                resting = {x for places in classes for x in places}
                self.assertEqual({told[x] for x in range(len(chain)) if x not in resting} - {0}, set())


class ReturningTest(oracles.CrownTestCase):
    def test_known_numbers_of_steps(self):
        self.assertEqual(returning(ONE_PLACE, 0), (1, 1))
        self.assertEqual([returning(LACED, place) for place in range(7)],
                         [None, (7, 3), (3, 1), (7, 4), (3, 2), (1, 1), None])
        self.assertEqual([returning(line(24, (1, 2)), place) for place in [0, 1, 12, 22, 23]],
                         [(1, 1), None, None, None, (1, 1)])

    def test_1_divided_by_the_share(self):
        for chain in EXAMPLES + RANDOM:
            for places in oracles.classes_of(chain):
                shares = long_shares(chain, places[0])
                for place in places:
                    self.assert_numbers([returning(chain, place)])
                    self.assertEqual(returning(chain, place), number(1 / Fraction(*shares[place])))
            for place in set(range(len(chain))) - {x for places in oracles.classes_of(chain) for x in places}:
                self.assertIsNone(returning(chain, place))


class StepsToRestTest(oracles.CrownTestCase):
    def test_known_walks(self):
        self.assertEqual(steps_to_rest(ONE_PLACE), [(0, 1)])
        self.assertEqual(steps_to_rest(FORK), [(1, 1), (0, 1), (0, 1)])
        self.assertEqual(steps_to_rest(ring(24)), [(0, 1)] * 24)
        self.assertEqual(steps_to_rest(LACED), [(12, 5), (0, 1), (0, 1), (0, 1), (0, 1), (0, 1), (21, 5)])
        down = [(0, "draw", [((1, 1), max(x - 1, 0))]) for x in range(24)]
        self.assertEqual(steps_to_rest(down), [(x, 1) for x in range(24)])
        for size in [3, 10, 24]:
            self.assertEqual(steps_to_rest(line(size, (1, 2))), [(x * (size - 1 - x), 1) for x in range(size)])

    def test_a_place_that_is_left_seldom(self):
        waiting = [(0, "draw", [((998, 999), 0), ((1, 999), 1)]), (0, "draw", [((1, 1), 1)])]
        self.assertEqual(steps_to_rest(waiting), [(999, 1), (0, 1)])

    def test_the_equations_at_each_place(self):
        for chain in EXAMPLES + RANDOM:
            told = steps_to_rest(chain)
            self.assert_numbers(told)
            told = fractions(told)
            resting = {x for places in oracles.classes_of(chain) for x in places}
            for place in range(len(chain)):
                expected = 0 if place in resting else 1 + mean_ahead(chain, place, told)
                self.assertEqual(told[place], expected)


class LongGainsTest(oracles.CrownTestCase):
    def test_known_gains(self):
        self.assertEqual(long_gains(ONE_PLACE), [(4, 1)])
        self.assertEqual(long_gains(FORK), [(5, 2), (2, 1), (3, 1)])
        self.assertEqual(long_gains([(9, "draw", [((1, 1), 1)]), (0, "draw", [((1, 1), 1)])]), [(0, 1), (0, 1)])
        self.assertEqual(long_gains([(x % 10, "draw", step[2]) for x, step in enumerate(ring(24))]), [(4, 1)] * 24)

    def test_the_sums_of_long_shares_times_marks(self):
        for chain in EXAMPLES + RANDOM[:100] + RANDOM[-10:]:
            told = long_gains(chain)
            self.assert_numbers(told)
            for place in range(len(chain)):
                shares = fractions(long_shares(chain, place))
                self.assertEqual(told[place], number(sum((shares[x] * chain[x][0] for x in range(len(chain))),
                                                         Fraction(0))))


if __name__ == "__main__":
    unittest.main()
