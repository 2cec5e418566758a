"""oddcrown.companies: points 21 to 26."""

import random
import unittest

import oracles
from oddcrown import companies
from oddcrown.companies import (can_be_kept, company_mark, distances, greatest_companies, is_company,
                                marks_of_companies, return_to, rounds_out, staying, won_in)
from oddcrown.games import with_strategy
from oracles import ring, steps_of

SHOWN = [(3, "ours", [0, 1]), (2, "draw", [((1, 2), 0), ((1, 2), 2)]), (0, "theirs", [1, 2]),
         (1, "draw", [((1, 1), 0)])]
# A draw keeps all its targets, a side keeps one.
KINDS = [(5, "draw", [((1, 2), 1), ((1, 2), 2)]), (4, "ours", [0, 3]), (3, "theirs", [0, 3]), (2, "ours", [3, 3])]
EVERY = list(range(24))
RANDOM = (oracles.small_games(21, 100, size=6) + oracles.small_games(22, 25, ("ours", "theirs"), 6)
          + oracles.small_games(23, 25, ("draw", "theirs"), 6) + oracles.small_games(24, 10, ("draw",), 6))


def stands_alone(kind, away):
    """A game in which the place 0 leads to itself or away to the place 1."""
    rest = {"draw": [((1, 1), away)], "ours": [away], "theirs": [away]}[kind]
    return [(2, kind, rest), (1, "draw", [((1, 1), 1)])]


def row_out(kind, order):
    """24 places, the last of which is a draw that leads out of them, and each other one leads to the next alone."""
    game = [None] * 25
    game[24] = (0, "draw", [((1, 1), 24)])
    for at, place in enumerate(order):
        ahead = 24 if at == 23 else order[at + 1]
        game[place] = (0, kind, [((1, 1), ahead)] if kind == "draw" else [ahead, ahead])
    return game


def rounds_by_definition(game, places):
    rounds, inside, count = [None] * len(game), set(places), 0
    while True:
        going = {place for place in inside if not oracles.is_kept_at(game, place, inside)}
        if not going:
            return rounds
        count += 1
        inside -= going
        for place in going:
            rounds[place] = count


class CompaniesTest(oracles.CrownTestCase):
    def test_nothing_is_modified_and_what_is_returned_is_new(self):
        for game in [SHOWN, KINDS, ring(4), ring(4, "theirs")]:
            for places in [[], [0], [0, 1, 2], [0, 1, 2, 3]]:
                for call in [rounds_out, staying, greatest_companies, marks_of_companies]:
                    self.assert_new(call, game, places)
                for side in ["ours", "theirs"]:
                    self.assert_unchanged(won_in, game, places, side=side)
                for call in [can_be_kept, is_company]:
                    self.assert_unchanged(call, game, places)
            for company in greatest_companies(game, [0, 1, 2, 3]):
                self.assert_unchanged(company_mark, game, company)
                for place in company:
                    self.assert_new(distances, game, company, place)
                    self.assert_new(return_to, game, company, place)
        self.assert_new(won_in, SHOWN, [0, 1, 2, 3], side="ours")
        self.assert_new(won_in, SHOWN, [0, 1, 2, 3], side="theirs")

    def test_the_functions_stand_in_their_file(self):
        for name in ["can_be_kept", "rounds_out", "staying", "is_company", "greatest_companies", "company_mark",
                     "marks_of_companies", "won_in", "distances", "return_to"]:
            self.assertEqual(getattr(companies, name).__module__, "oddcrown.companies")

    def test_as_the_document_shows_it(self):
        self.assertEqual(greatest_companies(SHOWN, [0, 1, 2, 3]), [[0, 1, 2]])
        self.assertEqual(marks_of_companies(SHOWN, [0, 1, 2, 3]), [0, 3])
        self.assertEqual(won_in(SHOWN, [0, 1, 2, 3], side="ours"), [2])
        self.assertEqual(won_in(SHOWN, [0, 1, 2, 3], side="theirs"), [0, 1, 2])


class CanBeKeptTest(oracles.CrownTestCase):
    def test_the_empty_list(self):
        for game in [SHOWN, KINDS, ring(24)]:
            self.assertIs(can_be_kept(game, []), True)
            self.assertEqual(staying(game, []), [])
            self.assertEqual(rounds_out(game, []), [None] * len(game))

    def test_a_single_place(self):
        for kind in ["draw", "ours", "theirs"]:
            self.assertIs(can_be_kept(stands_alone(kind, 0), [0]), True)
            self.assertIs(can_be_kept(stands_alone(kind, 1), [0]), False)

    def test_known_lists(self):
        told = {(): True, (3,): True, (0, 1, 2): True, (0, 1): False, (0, 2): False, (1, 2): False, (0, 1, 2, 3): True,
                (1, 3): True, (2, 3): True, (1, 2, 3): True, (0, 1, 3): False, (0,): False, (1,): False}
        for places, kept in told.items():
            self.assertIs(can_be_kept(KINDS, list(places)), kept, places)

    def test_all_lists_of_small_games(self):
        for game in RANDOM:
            for places in oracles.lists_of(range(len(game))):
                self.assertIs(can_be_kept(game, places), oracles.is_kept(game, places))


class StayingTest(oracles.CrownTestCase):
    def test_known_rounds(self):
        self.assertEqual(rounds_out(KINDS, [0, 1, 2]), [None] * 4)
        self.assertEqual(rounds_out(KINDS, [0, 1]), [1, 2, None, None])
        self.assertEqual(rounds_out(KINDS, [0, 1, 3]), [1, None, None, None])
        self.assertEqual(rounds_out(KINDS, [1, 2]), [None, 1, 1, None])
        self.assertEqual(rounds_out(KINDS, [0]), [1, None, None, None])
        self.assertEqual(staying(KINDS, [0, 1, 3]), [1, 3])
        self.assertEqual(staying(KINDS, [0, 1]), [])

    def test_24_places_that_go_out_round_by_round(self):
        shuffled = random.Random(1).sample(EVERY, 24)
        for kind in ["draw", "ours", "theirs"]:
            for order in [EVERY, EVERY[::-1], shuffled]:
                game = row_out(kind, order)
                told = [None] * 25
                for at, place in enumerate(order):
                    told[place] = 24 - at
                self.assertEqual(rounds_out(game, EVERY), told)
                self.assertEqual(staying(game, EVERY), [])
                self.assertIs(can_be_kept(game, EVERY), False)
                self.assertEqual(staying(game, EVERY + [24]), EVERY + [24])

    def test_all_places_of_a_round_go_out_at_the_same_time(self):
        both = [(0, "ours", [1]), (0, "ours", [4]), (0, "draw", [((1, 2), 1), ((1, 2), 4)]), (0, "theirs", [2]),
                (0, "ours", [4])]
        self.assertEqual(rounds_out(both, [0, 1, 2, 3]), [2, 1, 1, 2, None])

    def test_all_lists_of_small_games(self):
        for game in RANDOM:
            kept = [places for places in oracles.lists_of(range(len(game))) if oracles.is_kept(game, places)]
            for places in oracles.lists_of(range(len(game))):
                within = [part for part in kept if set(part) <= set(places)]
                stays = staying(game, places)
                self.assertEqual(stays, sorted({x for part in within for x in part}))
                self.assertEqual(rounds_out(game, places), rounds_by_definition(game, places))

    def test_large_games(self):
        rng = random.Random(22)
        for game in oracles.large_games(23, 60, 24):
            places = sorted(rng.sample(EVERY, 20))
            told = rounds_by_definition(game, places)
            self.assertEqual(rounds_out(game, places), told)
            self.assertEqual(staying(game, places), [place for place in places if told[place] is None])


class CompanyTest(oracles.CrownTestCase):
    def test_the_empty_list_is_no_company(self):
        for game in [SHOWN, KINDS, ring(24)]:
            self.assertIs(is_company(game, []), False)
            self.assertEqual(greatest_companies(game, []), [])
            self.assertEqual(marks_of_companies(game, []), [])
            self.assertEqual(won_in(game, [], side="ours"), [])
            self.assertEqual(won_in(game, [], side="theirs"), [])

    def test_a_single_place(self):
        for kind in ["draw", "ours", "theirs"]:
            self.assertIs(is_company(stands_alone(kind, 0), [0]), True)
            self.assertIs(is_company(stands_alone(kind, 1), [0]), False)
            self.assertEqual(greatest_companies(stands_alone(kind, 0), [0, 1]), [[0], [1]])
            self.assertEqual(greatest_companies(stands_alone(kind, 1), [0, 1]), [[1]])
            self.assertEqual(greatest_companies(stands_alone(kind, 1), [0]), [])

    def test_rings(self):
        for kind in ["draw", "ours", "theirs"]:
            self.assertIs(is_company(ring(24, kind), EVERY), True)
            self.assertEqual(greatest_companies(ring(24, kind), EVERY), [EVERY])
            for without in [0, 11, 23]:
                places = [x for x in EVERY if x != without]
                self.assertIs(is_company(ring(24, kind), places), False)
                self.assertEqual(greatest_companies(ring(24, kind), places), [])

    def test_two_companies_side_by_side_are_no_company(self):
        game = [(x, "ours", [x, x ^ 1]) for x in range(4)]
        self.assertIs(is_company(game, [0, 1]), True)
        self.assertIs(is_company(game, [0]), True)
        self.assertIs(is_company(game, [0, 1, 2, 3]), False)
        self.assertIs(is_company(game, [0, 2]), False)
        self.assertEqual(greatest_companies(game, [0, 1, 2, 3]), [[0, 1], [2, 3]])
        self.assertEqual(greatest_companies(game, [0, 2, 3]), [[0], [2, 3]])

    def test_a_list_that_is_kept_with_a_way_in_one_direction_alone(self):
        game = [(0, "ours", [0, 1]), (0, "draw", [((1, 1), 1)])]
        self.assertIs(can_be_kept(game, [0, 1]), True)
        self.assertIs(is_company(game, [0, 1]), False)
        self.assertEqual(greatest_companies(game, [0, 1]), [[0], [1]])

    def test_the_order_is_that_of_the_least_places(self):
        game = [(0, "theirs", [23 - x]) for x in EVERY]
        self.assertEqual(greatest_companies(game, EVERY), [[x, 23 - x] for x in range(12)])
        stands = [(x % 10, "theirs", [x]) for x in EVERY]
        self.assertEqual(greatest_companies(stands, EVERY), [[x] for x in EVERY])
        self.assertEqual(greatest_companies(stands, [3, 5, 20]), [[3], [5], [20]])
        self.assertEqual(won_in(stands, [3, 5, 20], side="theirs"), [3, 5])

    def test_all_lists_of_small_games(self):
        for game in RANDOM:
            for places in oracles.lists_of(range(len(game))):
                self.assertIs(is_company(game, places), oracles.is_company_by_definition(game, places))

    def test_greatest_companies_marks_and_places_of_small_games(self):
        for game in RANDOM:
            everything = oracles.companies_by_search(game, range(len(game)))
            for places in oracles.lists_of(range(len(game))):
                within = [part for part in everything if set(part) <= set(places)]
                greatest = [part for part in within if not any(set(part) < set(other) for other in within)]
                self.assertEqual(greatest_companies(game, places), sorted(greatest, key=lambda part: part[0]))
                marks = {tuple(part): max(game[x][0] for x in part) for part in within}
                self.assertEqual(marks_of_companies(game, places), sorted(set(marks.values())))
                for side, parity in [("ours", 0), ("theirs", 1)]:
                    won = {x for part in within if marks[tuple(part)] % 2 == parity for x in part}
                    self.assertEqual(won_in(game, places, side=side), sorted(won))
                for part in within:
                    self.assertEqual(company_mark(game, part), marks[tuple(part)])

    def test_with_a_strategy_put_in(self):
        game = with_strategy(SHOWN, "ours", [0, None, None, None])
        self.assertEqual(greatest_companies(game, [0, 1, 2, 3]), [[0], [2]])
        self.assertEqual(marks_of_companies(game, [0, 1, 2, 3]), [0, 3])
        self.assertEqual(won_in(game, [0, 1, 2, 3], side="theirs"), [0])
        for told in RANDOM[:40]:
            for strategy in oracles.strategies(told, "theirs")[:4]:
                put = with_strategy(told, "theirs", strategy)
                for places in oracles.lists_of(range(len(told))):
                    self.assertIs(is_company(put, places), oracles.is_company_by_definition(put, places))


class MarksTest(oracles.CrownTestCase):
    def test_company_marks(self):
        self.assertEqual(company_mark(SHOWN, [0, 1, 2]), 3)
        self.assertEqual(company_mark(SHOWN, [2]), 0)
        marked = [(x % 10, "ours", [(x + 1) % 24]) for x in EVERY]
        self.assertEqual(company_mark(marked, EVERY), 9)

    def test_a_greater_mark_hides_no_lesser_company(self):
        # Each place can stand still, and all of them can be gone round.
        game = [(mark, "ours" if at % 2 else "theirs", [at, (at + 1) % 10]) for at, mark in
                enumerate([5, 2, 9, 0, 7, 4, 1, 8, 3, 6])]
        self.assertEqual(marks_of_companies(game, list(range(10))), list(range(10)))
        self.assertEqual(won_in(game, list(range(10)), side="ours"), [1, 3, 5, 7, 9])
        self.assertEqual(won_in(game, list(range(10)), side="theirs"), list(range(10)))
        self.assertEqual(won_in(game, [0, 1, 3, 4, 5, 6, 7, 8, 9], side="theirs"), [0, 4, 6, 8])

    def test_a_mark_of_no_company_is_not_told(self):
        game = [(9, "ours", [1]), (4, "ours", [0, 1, 2]), (7, "draw", [((1, 2), 1), ((1, 2), 3)]), (6, "theirs", [1])]
        self.assertEqual(marks_of_companies(game, [0, 1, 2, 3]), [4, 7, 9])
        self.assertEqual(marks_of_companies(game, [0, 2, 3]), [])
        self.assertEqual(marks_of_companies(game, [1, 2]), [4])
        self.assertEqual(won_in(game, [0, 1, 2, 3], side="ours"), [1])
        self.assertEqual(won_in(game, [1, 2, 3], side="theirs"), [1, 2, 3])

    def test_companies_of_one_mark_in_several_parts(self):
        game = [(2, "ours", [x]) for x in range(3)] + [(3, "ours", [3, 0])] + [(4, "theirs", [4])]
        self.assertEqual(won_in(game, [0, 2, 3, 4], side="ours"), [0, 2, 4])
        self.assertEqual(won_in(game, [0, 1, 2, 3, 4], side="theirs"), [3])

    def test_large_games(self):
        rng = random.Random(24)
        for game in oracles.large_games(25, 60, 24):
            places = sorted(rng.sample(EVERY, rng.randint(12, 24)))
            for side, parity in [("ours", 0), ("theirs", 1)]:
                won = won_in(game, places, side=side)
                self.assertEqual(bool(won), oracles.has_company(game, places, parity))
                if won:
                    # What lies in companies that are won can be kept, also all of it together.
                    self.assertTrue(oracles.is_kept(game, won))
            for part in greatest_companies(game, places):
                self.assertTrue(oracles.is_company_by_definition(game, part))


class ReturnTest(oracles.CrownTestCase):
    def test_rings_of_24_places(self):
        for kind in ["draw", "ours", "theirs"]:
            game = ring(24, kind)
            for place in EVERY:
                self.assertEqual(distances(game, EVERY, place), [(place - x) % 24 for x in EVERY])
                self.assertEqual(return_to(game, EVERY, place), [None if kind == "draw" else 0] * 24)

    def test_a_ring_that_can_be_gone_in_both_directions(self):
        game = [(0, "theirs" if x % 2 else "ours", [x, (x + 1) % 24, (x - 1) % 24]) for x in EVERY]
        for place in EVERY:
            ahead = [(place - x) % 24 for x in EVERY]
            self.assertEqual(distances(game, EVERY, place), [min(step, 24 - step) for step in ahead])
            self.assertEqual(return_to(game, EVERY, place), [0 if x == 0 else 1 if x <= 12 else 2 for x in ahead])

    def test_the_first_branch_with_a_lesser_distance(self):
        game = [(0, "ours", [3, 0]), (0, "theirs", [1, 2, 0, 0]), (0, "ours", [2, 3, 1, 0]), (0, "ours", [2, 3, 2, 1])]
        company = [0, 1, 2, 3]
        self.assertEqual(distances(game, company, 0), [0, 1, 1, 2])
        # From the place 2 the place 1 is as far off, so the branch to it is passed over.
        self.assertEqual(return_to(game, company, 0), [0, 2, 3, 0])
        self.assertEqual(distances(game, company, 3), [1, 2, 1, 0])
        self.assertEqual(return_to(game, company, 3), [0, 1, 1, 0])

    def test_the_told_place_itself_takes_the_first_branch_into_the_company(self):
        game = [(0, "ours", [3, 2, 0, 1]), (0, "theirs", [3, 0]), (0, "theirs", [1, 0, 3]), (1, "draw", [((1, 1), 3)])]
        self.assertEqual(return_to(game, [0, 1, 2], 0), [1, 1, 1, None])
        self.assertEqual(return_to(game, [0, 1], 0), [2, 1, None, None])
        self.assertEqual(return_to(game, [0], 0), [2, None, None, None])
        self.assertEqual(return_to(game, [0, 1, 2], 1), [3, 1, 0, None])
        self.assertEqual(return_to(game, [0, 1, 2], 2), [1, 1, 0, None])

    def test_none_elsewhere(self):
        game = [(0, "ours", [0, 1]), (0, "draw", [((1, 2), 0), ((1, 2), 2)]), (0, "theirs", [3, 0]), (0, "ours", [3])]
        self.assertEqual(distances(game, [0, 1, 2], 2), [2, 1, 0, None])
        self.assertEqual(return_to(game, [0, 1, 2], 2), [1, None, 1, None])
        self.assertEqual(distances(game, [3], 3), [None, None, None, 0])
        self.assertEqual(return_to(game, [3], 3), [None, None, None, 0])
        self.assertEqual(distances(game, [0], 0), [0, None, None, None])

    def test_ways_out_of_the_company_and_back_do_not_count(self):
        game = [(0, "ours", [1, 4]), (0, "ours", [2]), (0, "ours", [3]), (0, "ours", [0]), (0, "ours", [3])]
        self.assertEqual(distances(game, [0, 1, 2, 3], 3), [3, 2, 1, 0, None])
        self.assertEqual(return_to(game, [0, 1, 2, 3], 3), [0, 0, 0, 0, None])
        self.assertEqual(distances(game, [0, 1, 2, 3, 4], 3), [2, 2, 1, 0, 1])
        self.assertEqual(return_to(game, [0, 1, 2, 3, 4], 3), [1, 0, 0, 0, 0])

    def test_by_definition(self):
        for game in RANDOM:
            for company in oracles.companies_by_search(game, range(len(game))):
                for place in company:
                    told = distances(game, company, place)
                    for x in range(len(game)):
                        if x not in company:
                            self.assertIsNone(told[x])
                        elif x == place:
                            self.assertEqual(told[x], 0)
                        else:
                            self.assertEqual(told[x], 1 + min(told[y] for y in steps_of(game[x]) if y in company))
                    self.assertEqual(return_to(game, company, place), self.return_by_definition(game, company, place))

    def return_by_definition(self, game, company, place):
        told = distances(game, company, place)
        choice = [None] * len(game)
        for x in company:
            if game[x][1] != "draw":
                choice[x] = next(branch for branch, y in enumerate(steps_of(game[x]))
                                 if y in company and (x == place or told[y] < told[x]))
        return choice

    def test_a_play_that_returns_comes_to_the_place_again_and_again(self):
        for game in RANDOM:
            for company in oracles.companies_by_search(game, range(len(game))):
                for place in company:
                    choice = [0 if told is None else told for told in return_to(game, company, place)]
                    chain = oracles.put_in(oracles.put_in(game, "ours", choice), "theirs", choice)
                    for x in company:
                        self.assertIn(place, oracles.reached_from(chain, x))
                        self.assertLessEqual(oracles.reached_from(chain, x), set(company))


if __name__ == "__main__":
    unittest.main()
