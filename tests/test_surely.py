"""oddcrown.surely: points 38 to 42."""

import itertools
import time
import unittest

import oracles
from oddcrown import surely as module
from oddcrown.crowns import values
from oddcrown.games import check_game, check_strategy
from oddcrown.surely import (against_us, almost_paper, almost_surely, shows_almost, shows_surely, standings, surely,
                             surely_paper)
from oracles import OTHER, PARITY, lists_of, strategies

SHOWN = [(1, "draw", [((1, 2), 0), ((1, 2), 1)]), (2, "draw", [((1, 1), 0)]), (1, "draw", [((1, 1), 2)]),
         (0, "ours", [3])]
# From 0 we win surely by 3, from 1 almost surely, from 2 with some chance, from 4 never.
ALL_STANDINGS = [(1, "ours", [4, 3]), (1, "draw", [((1, 2), 1), ((1, 2), 3)]), (5, "draw", [((1, 3), 3), ((2, 3), 4)]),
                 (0, "draw", [((1, 1), 3)]), (1, "theirs", [4])]
# We win at 0 and 1 only by going round by 1, and the others win at 2 only by staying there.
STAYING = [(1, "ours", [0, 1]), (2, "ours", [0]), (1, "theirs", [2, 0]), (3, "theirs", [3, 3])]
SEARCHED = [(game, oracles.Search(game))
            for game in [SHOWN, ALL_STANDINGS, STAYING] + oracles.small_games(71, 130)
            + oracles.small_games(72, 80, ("ours", "theirs")) + oracles.small_games(73, 20, ("draw",))]
WITHOUT_DRAWS = [(game, search) for game, search in SEARCHED if all(kind != "draw" for _, kind, _ in game)]


def certain(game):
    """The game against us, place by place."""
    return [(mark, "theirs", [x for _, x in rest]) if kind == "draw" else (mark, kind, rest)
            for mark, kind, rest in game]


def is_lost_by_some_play(game, place):
    """Whether some play from the place, in which no side chooses with a plan, has an odd greatest mark."""
    for top in oracles.reached_from(game, place) | {place}:
        low = {x for x in range(len(game)) if game[x][0] <= game[top][0]}
        if game[top][0] % 2 == 1 and top in oracles.reached_from(game, top, low):
            return True
    return False


def surely_by_search(game):
    """The places from which some strategy of ours wins every play."""
    told = certain(game)
    found = set()
    for ours in strategies(game, "ours"):
        put = [(mark, kind, [rest[branch]]) if kind == "ours" else (mark, kind, rest)
               for (mark, kind, rest), branch in zip(told, ours)]
        found |= {place for place in range(len(game)) if not is_lost_by_some_play(put, place)}
    return sorted(found)


def shows_almost_by_definition(game, side, places, strategy):
    """Point 41."""
    for place in places:
        ahead = oracles.steps_of(game[place])
        if game[place][1] == side:
            ahead = [ahead[strategy[place]]]
        if any(x not in places for x in ahead):
            return False
    return not oracles.has_company(oracles.put_in(game, side, strategy), places, 1 - PARITY[side])


def shows_surely_by_definition(game, places, ours, theirs):
    """Point 39."""
    told = certain(game)
    others = [place for place in range(len(game)) if place not in places]
    for place, (_, kind, rest) in enumerate(told):
        if place in places:
            ahead = [rest[ours[place]]] if kind == "ours" else rest
        else:
            ahead = [rest[theirs[place]]] if kind == "theirs" else rest
        if any((x in places) != (place in places) for x in ahead):
            return False
    return (not oracles.has_company(oracles.put_in(told, "ours", ours), places, 1)
            and not oracles.has_company(oracles.put_in(told, "theirs", theirs), others, 0))


class SurelyTest(oracles.CrownTestCase):
    def test_nothing_is_modified_and_what_is_returned_is_new(self):
        for game, search in SEARCHED[:60] + WITHOUT_DRAWS[:10]:
            for call in [against_us, surely, surely_paper, standings]:
                self.assert_new(call, game)
            self.assert_unchanged(shows_surely, game, *surely_paper(game))
            for side in ["ours", "theirs"]:
                self.assert_new(almost_surely, game, side)
                self.assert_new(almost_paper, game, side)
                self.assert_unchanged(shows_almost, game, side, *almost_paper(game, side))
                self.assert_unchanged(shows_almost, game, side, [0], getattr(search, side)[0])

    def test_the_functions_stand_in_their_file(self):
        for name in ["against_us", "surely", "surely_paper", "shows_surely", "almost_surely", "almost_paper",
                     "shows_almost", "standings"]:
            self.assertEqual(getattr(module, name).__module__, "oddcrown.surely")

    def test_games_of_24_places(self):
        games = [game for kinds in [("draw", "ours", "theirs"), ("ours", "theirs"), ("draw", "ours"), ("draw",)]
                 for game in oracles.large_games(74, 12, 24, kinds)]
        parted = 0
        for game in games:
            began = time.perf_counter()
            paper = surely_paper(game)
            self.assertEqual(paper[0], surely(game))
            shown = shows_surely(game, *paper)
            told = standings(game)
            self.assertLess(time.perf_counter() - began, 5)
            self.assertIs(shown, True)
            self.assertTrue(shows_surely_by_definition(game, *paper))
            self.assertEqual([place for place in range(24) if told[place] == "sure"], paper[0])
            for side in ["ours", "theirs"]:
                places, strategy = almost_paper(game, side)
                self.assertEqual(places, almost_surely(game, side))
                self.assertIs(shows_almost(game, side, places, strategy), True)
                self.assertTrue(shows_almost_by_definition(game, side, places, strategy))
            parted += len(set(told)) > 1
        self.assertGreater(parted, 15)


class AgainstUsTest(oracles.CrownTestCase):
    def test_place_by_place(self):
        self.assertEqual(against_us(SHOWN), [(1, "theirs", [0, 1]), (2, "theirs", [0]), (1, "theirs", [2]),
                                             (0, "ours", [3])])
        game = [(3, "draw", [((1, 4), 1), ((1, 4), 0), ((1, 2), 1)]), (2, "theirs", [1, 0, 1]), (9, "ours", [0, 0])]
        self.assertEqual(against_us(game), [(3, "theirs", [1, 0, 1]), (2, "theirs", [1, 0, 1]), (9, "ours", [0, 0])])
        for game, _ in SEARCHED:
            self.assertEqual(against_us(game), certain(game))
            self.assertIsNone(check_game(against_us(game)))
            self.assertEqual(against_us(against_us(game)), certain(game))


class WonSurelyTest(oracles.CrownTestCase):
    def test_as_the_document_shows_it(self):
        self.assertEqual(surely(SHOWN), [3])
        self.assertEqual(standings(SHOWN), ["almost", "almost", "never", "sure"])

    def test_against_all_strategies_and_all_plays(self):
        none = some = 0
        for game, _ in SEARCHED:
            expected = surely_by_search(game)
            self.assertEqual(surely(game), expected)
            self.assertEqual(surely_paper(game)[0], expected)
            told = values(against_us(game))
            self.assertEqual(told, [(1, 1) if place in expected else (0, 1) for place in range(len(game))])
            none += expected == []
            some += 0 < len(expected) < len(game)
        self.assertGreater(none, 20)
        self.assertGreater(some, 20)

    def test_games_without_draws_against_all_pairs_of_strategies(self):
        self.assertGreater(len(WITHOUT_DRAWS), 25)
        for game, search in WITHOUT_DRAWS:
            won = [place for place in range(len(game))
                   if any(all(chances[place] == 1 for chances in row) for row in search.table)]
            self.assertEqual(surely(game), won)

    def test_papers_show_it(self):
        for game, _ in SEARCHED:
            places, ours, theirs = surely_paper(game)
            told = certain(game)
            self.assertIsNone(check_strategy(told, "ours", ours))
            self.assertIsNone(check_strategy(told, "theirs", theirs))
            self.assertTrue(shows_surely_by_definition(game, places, ours, theirs))
            self.assertIs(shows_surely(game, places, ours, theirs), True)

    def test_lists_with_one_place_more_or_one_less_show_nothing(self):
        for game, _ in SEARCHED:
            places, ours, theirs = surely_paper(game)
            for place in range(len(game)):
                other = sorted(set(places) ^ {place})
                self.assertIs(shows_surely(game, other, ours, theirs), False)

    def test_all_lists_and_all_strategies(self):
        tried = shown = 0
        for game, _ in SEARCHED:
            told = certain(game)
            pairs = list(itertools.product(strategies(told, "ours"), strategies(told, "theirs")))
            if len(game) > 5 or len(pairs) > 60:
                continue
            found = set()
            for places in lists_of(range(len(game))):
                for ours, theirs in pairs:
                    expected = shows_surely_by_definition(game, places, ours, theirs)
                    self.assertIs(shows_surely(game, places, ours, theirs), expected)
                    tried += 1
                    if expected:
                        shown += 1
                        found.add(tuple(places))
            # There are such strategies for exactly one list.
            self.assertEqual(found, {tuple(surely(game))})
        self.assertGreater(tried, 3000)
        self.assertGreater(shown, 60)

    def test_strategies_that_lead_out_of_the_list_or_stay_in_the_wrong_company(self):
        ours, theirs = [1, 0, None, None], [None, None, 0, 1]
        self.assertEqual(surely(STAYING), [0, 1])
        self.assertIs(shows_surely(STAYING, [0, 1], ours, theirs), True)
        # Staying at 0 keeps a company with an odd mark; from 2 the others would lead into the list.
        self.assertIs(shows_surely(STAYING, [0, 1], [0, 0, None, None], theirs), False)
        self.assertIs(shows_surely(STAYING, [0, 1], ours, [None, None, 1, 1]), False)
        game = [(0, "ours", [0, 1]), (1, "theirs", [1])]
        self.assertIs(shows_surely(game, [0], [0, None], [None, 0]), True)
        self.assertIs(shows_surely(game, [0], [1, None], [None, 0]), False)
        # Staying at 0, with an even mark, the others would lose.
        game = [(0, "theirs", [0, 1]), (1, "theirs", [1])]
        self.assertIs(shows_surely(game, [], [None, None], [1, 0]), True)
        self.assertIs(shows_surely(game, [], [None, None], [0, 0]), False)
        self.assertIs(shows_surely(SHOWN, [3], [None, None, None, 0], [1, 0, 0, None]), False)
        self.assertIs(shows_surely(SHOWN, [3], [None, None, None, 0], [0, 0, 0, None]), True)

    def test_the_empty_list_and_all_places(self):
        for kind in ["ours", "theirs"]:
            for mark in range(10):
                game = oracles.ring(5, kind, mark)
                every, no = [0] * 5, [None] * 5
                ours, theirs = (every, no) if kind == "ours" else (no, every)
                won = mark % 2 == 0
                self.assertEqual(surely(game), list(range(5)) if won else [])
                self.assertIs(shows_surely(game, list(range(5)), ours, theirs), won)
                self.assertIs(shows_surely(game, [], ours, theirs), not won)
                self.assertIs(shows_surely(game, [0], ours, theirs), False)


class AlmostSurelyTest(oracles.CrownTestCase):
    def test_both_sides_against_all_pairs_of_strategies(self):
        not_sure = 0
        for game, search in SEARCHED:
            ours = [place for place in range(len(game)) if search.values[place] == 1]
            theirs = [place for place in range(len(game)) if search.values[place] == 0]
            self.assertEqual(almost_surely(game, "ours"), ours)
            self.assertEqual(almost_surely(game, "theirs"), theirs)
            self.assertLessEqual(set(surely(game)), set(ours))
            not_sure += surely(game) != ours
        self.assertGreater(not_sure, 10)

    def test_papers_show_it(self):
        for game, search in SEARCHED:
            for side in ["ours", "theirs"]:
                places, strategy = almost_paper(game, side)
                self.assertEqual(places, almost_surely(game, side))
                self.assertIsNone(check_strategy(game, side, strategy))
                self.assertTrue(shows_almost_by_definition(game, side, places, strategy))
                self.assertIs(shows_almost(game, side, places, strategy), True)
                told = getattr(search, side).index(strategy)
                chances = search.least[told] if side == "ours" else search.greatest[told]
                self.assertTrue(all(chances[place] == 1 - PARITY[side] for place in places))

    def test_places_that_are_won_almost_surely_and_not_surely(self):
        self.assertEqual(surely(SHOWN), [3])
        self.assertEqual(almost_surely(SHOWN, "ours"), [0, 1, 3])
        self.assertEqual(almost_surely(SHOWN, "theirs"), [2])
        told = [None, None, None, 0]
        for places, right in [([0, 1, 3], True), ([0, 1], True), ([3], True), ([], True), ([0], False), ([1], False),
                              ([1, 3], False), ([2], False), ([0, 1, 2, 3], False)]:
            self.assertIs(shows_almost(SHOWN, "ours", places, told), right)

    def test_all_lists_and_all_strategies(self):
        tried = shown = 0
        for game, search in SEARCHED:
            if len(game) > 6:
                continue
            for side in ["ours", "theirs"]:
                for strategy in getattr(search, side)[:12]:
                    for places in lists_of(range(len(game))):
                        expected = shows_almost_by_definition(game, side, places, strategy)
                        self.assertIs(shows_almost(game, side, places, strategy), expected)
                        tried += 1
                        shown += expected
                        if expected:
                            self.assertLessEqual(set(places), set(almost_surely(game, side)))
        self.assertGreater(tried, 4000)
        self.assertGreater(shown, 400)

    def test_papers_with_one_place_too_many(self):
        for game, _ in SEARCHED:
            for side in ["ours", "theirs"]:
                places, strategy = almost_paper(game, side)
                for place in range(len(game)):
                    if place not in places:
                        self.assertIs(shows_almost(game, side, sorted(places + [place]), strategy), False)

    def test_a_draw_that_leads_out_and_a_company_of_the_wrong_mark(self):
        game = [(2, "ours", [0, 1]), (2, "draw", [((998, 999), 0), ((1, 999), 2)]), (1, "draw", [((1, 1), 2)])]
        self.assertIs(shows_almost(game, "ours", [0], [0, None, None]), True)
        self.assertIs(shows_almost(game, "ours", [0], [1, None, None]), False)
        self.assertIs(shows_almost(game, "ours", [0, 1], [0, None, None]), False)
        self.assertIs(shows_almost(game, "theirs", [2], [None, None, None]), True)
        self.assertIs(shows_almost(game, "theirs", [1, 2], [None, None, None]), False)
        self.assertIs(shows_almost(STAYING, "ours", [0, 1], [1, 0, None, None]), True)
        self.assertIs(shows_almost(STAYING, "ours", [0, 1], [0, 0, None, None]), False)
        self.assertIs(shows_almost(STAYING, "theirs", [2, 3], [None, None, 0, 1]), True)
        self.assertIs(shows_almost(STAYING, "theirs", [2, 3], [None, None, 1, 1]), False)
        self.assertIs(shows_almost(STAYING, "theirs", [3], [None, None, 1, 1]), True)
        self.assertIs(shows_almost(STAYING, "ours", [0, 1, 2], [1, 0, None, None]), False)
        # Of a place of the other side all targets must be in the list.
        game = STAYING[:2] + [(2, "theirs", [2, 0])] + STAYING[3:]
        self.assertIs(shows_almost(game, "ours", [0, 1, 2], [1, 0, None, None]), True)
        self.assertIs(shows_almost(game, "ours", [2], [1, 0, None, None]), False)

    def test_the_empty_list(self):
        for game, search in SEARCHED[:40]:
            self.assertIs(shows_almost(game, "ours", [], search.ours[-1]), True)
            self.assertIs(shows_almost(game, "theirs", [], search.theirs[-1]), True)
        self.assertEqual(almost_paper([(1, "ours", [0])], "ours"), ([], [0]))
        self.assertEqual(almost_paper([(2, "ours", [0])], "theirs"), ([], [None]))

    def test_each_list_of_one_side_is_that_of_the_other_one_seen_from_there(self):
        for game, _ in SEARCHED:
            told = oracles.mirrored(game)
            for side in ["ours", "theirs"]:
                self.assertEqual(almost_surely(game, side), almost_surely(told, OTHER[side]))


class StandingsTest(oracles.CrownTestCase):
    def test_each_of_the_four_words(self):
        self.assertEqual(standings(ALL_STANDINGS), ["sure", "almost", "some", "sure", "never"])
        self.assertEqual(standings([(0, "ours", [0])]), ["sure"])
        self.assertEqual(standings([(1, "draw", [((1, 1), 0)])]), ["never"])

    def test_by_definition(self):
        seen = {}
        for game, search in SEARCHED:
            sure = surely_by_search(game)
            expected = ["sure" if place in sure else "almost" if value == 1 else "some" if value > 0 else "never"
                        for place, value in enumerate(search.values)]
            self.assertEqual(standings(game), expected)
            for word in expected:
                seen[word] = seen.get(word, 0) + 1
        self.assertEqual(sorted(seen), ["almost", "never", "some", "sure"])
        self.assertGreater(min(seen.values()), 20)


if __name__ == "__main__":
    unittest.main()
