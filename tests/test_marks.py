"""oddcrown.marks: points 54 to 59."""

import itertools
import random
import time
import unittest

import oracles
from oddcrown import marks as module
from oddcrown.crowns import values
from oddcrown.errors import BadMark
from oddcrown.games import check_game
from oddcrown.kinds import aim_values, is_fulfilled
from oddcrown.marks import (aim_of, idle_places, is_better, mark_matters, pressed, raised, values_by_mark, with_marks,
                            without_idle_marks)
from oracles import companies_by_search, fractions, numbers

FAVOUR = [9, 7, 5, 3, 1, 0, 2, 4, 6, 8]
SHOWN = [(4, "ours", [1, 2]), (7, "draw", [((1, 1), 1)]), (8, "theirs", [2, 3]),
         (6, "draw", [((1, 2), 2), ((1, 2), 3)])]
# The mark of 0 matters at 0 and 2, that of 1 at 1 and 3, the others nowhere.
ELSEWHERE = [(1, "draw", [((1, 1), 0)]), (2, "draw", [((1, 1), 1)]), (5, "ours", [0]), (7, "theirs", [1, 1])]
GAMES = [SHOWN, ELSEWHERE] + oracles.small_games(111, 120)
SEARCHED = [(game, oracles.Search(game).values) for game in GAMES]


def marked(game, marks):
    return [(mark,) + place[1:] for mark, place in zip(marks, game)]


def marks_in(game):
    return [place[0] for place in game]


def chain_of_marks(marks):
    """A game with these marks, in which the sides can choose the places."""
    every = range(len(marks))
    return [(mark, ("ours", "theirs")[x % 2], [(x + step) % len(marks) for step in range(1, 4)])
            for x, mark in zip(every, marks)]


class MarksTest(oracles.CrownTestCase):
    def test_nothing_is_modified_and_what_is_returned_is_new(self):
        for game in GAMES[:50]:
            for call in [pressed, idle_places, without_idle_marks, aim_of]:
                if call(game) is not None:
                    self.assert_new(call, game)
            self.assert_new(raised, game, 0)
            self.assert_new(with_marks, game, list(range(len(game))))
            self.assert_new(values_by_mark, game, 0, at=len(game) - 1)
            self.assert_unchanged(mark_matters, game, 0)
        told = [1, 2, 3, 4]
        self.assert_unchanged(with_marks, SHOWN, told)

    def test_the_functions_stand_in_their_file(self):
        for name in ["pressed", "raised", "with_marks", "is_better", "idle_places", "without_idle_marks",
                     "values_by_mark", "mark_matters", "aim_of"]:
            self.assertEqual(getattr(module, name).__module__, "oddcrown.marks")

    def test_games_of_the_greatest_size(self):
        for game in oracles.large_games(112, 20, 24):
            began = time.perf_counter()
            for call in [pressed, idle_places, without_idle_marks, aim_of]:
                call(game)
            self.assertLess(time.perf_counter() - began, 2)
        for game in oracles.large_games(113, 20, 8):
            began = time.perf_counter()
            for place in range(8):
                mark_matters(game, place)
                values_by_mark(game, place, at=0)
            self.assertLess(time.perf_counter() - began, 5)


class PressedTest(oracles.CrownTestCase):
    def assert_pressed(self, marks, expected):
        self.assertEqual(marks_in(pressed(chain_of_marks(marks))), expected)

    def test_as_the_document_shows_it(self):
        self.assertEqual(pressed(SHOWN), [(0, "ours", [1, 2]), (1, "draw", [((1, 1), 1)]), (2, "theirs", [2, 3]),
                                          (0, "draw", [((1, 2), 2), ((1, 2), 3)])])

    def test_groups(self):
        self.assert_pressed([0, 2, 4, 8], [0, 0, 0, 0])
        self.assert_pressed([1, 3, 9, 7], [1, 1, 1, 1])
        self.assert_pressed([8], [0])
        self.assert_pressed([9], [1])
        self.assert_pressed([9, 0], [1, 0])
        self.assert_pressed([8, 1], [2, 1])
        self.assert_pressed([1, 8, 9, 0], [1, 2, 3, 0])
        self.assert_pressed([2, 9, 6, 4], [0, 1, 0, 0])
        self.assert_pressed([3, 8, 5, 6, 9], [1, 2, 1, 2, 3])
        self.assert_pressed([9, 8, 7, 6, 5, 4, 3, 2, 1, 0], [9, 8, 7, 6, 5, 4, 3, 2, 1, 0])
        self.assert_pressed([9, 8, 7, 6, 5, 4, 3, 2, 1], [9, 8, 7, 6, 5, 4, 3, 2, 1])
        self.assert_pressed([5, 5, 6, 6, 9, 7, 8], [1, 1, 2, 2, 5, 3, 4])

    def test_by_definition(self):
        for many in range(1, 5):
            for told in itertools.combinations(range(10), many):
                expected = {}
                for at, mark in enumerate(told):
                    before = expected[told[at - 1]] if at else 0
                    expected[mark] = before + (mark - before) % 2
                game = chain_of_marks(told[::-1] + told[:1])
                self.assertEqual(marks_in(pressed(game)), [expected[mark] for mark in told[::-1] + told[:1]])

    def test_the_pressed_game_of_a_pressed_game_is_itself(self):
        for game in GAMES + oracles.large_games(114, 20, 24):
            told = pressed(game)
            self.assertIsNone(check_game(told))
            self.assertEqual([place[1:] for place in told], [place[1:] for place in game])
            self.assertEqual(pressed(told), told)

    def test_the_values_stay(self):
        for game, told in SEARCHED:
            self.assertEqual(values(pressed(game)), numbers(told))
        for game in oracles.large_games(115, 20, 24):
            self.assertEqual(values(pressed(game)), values(game))


class OtherMarksTest(oracles.CrownTestCase):
    def test_with_marks(self):
        self.assertEqual(with_marks(SHOWN, [9, 0, 3, 3]), [(9,) + SHOWN[0][1:], (0,) + SHOWN[1][1:],
                                                           (3,) + SHOWN[2][1:], (3,) + SHOWN[3][1:]])
        for game in GAMES[:30]:
            self.assertEqual(with_marks(game, marks_in(game)), game)
            self.assertEqual(with_marks(game, [7] * len(game)), marked(game, [7] * len(game)))

    def test_every_even_number(self):
        for by in range(-8, 9, 2):
            for marks in [[0], [9], [0, 9], [8], [1], [1, 8], [4, 5], [3, 6, 2], [7, 7]]:
                game = chain_of_marks(marks)
                behind = [mark + by for mark in marks]
                if min(behind) < 0 or max(behind) > 9:
                    with self.assertRaises(BadMark):
                        raised(game, by)
                else:
                    self.assertEqual(raised(game, by), marked(game, behind))

    def test_both_ends(self):
        self.assertEqual(raised([(8, "ours", [0])], -8), [(0, "ours", [0])])
        self.assertEqual(raised([(1, "ours", [0])], 8), [(9, "ours", [0])])
        for mark, by in [(7, -8), (1, -2), (2, 8), (8, 2), (9, 2), (0, -2)]:
            with self.assertRaises(BadMark):
                raised([(mark, "ours", [0])], by)
            with self.assertRaises(BadMark):
                raised([(4, "ours", [0]), (mark, "draw", [((1, 1), 0)])], by)

    def test_the_values_of_raised_games_stay(self):
        told = 0
        for game, expected in SEARCHED:
            for by in range(-8, 9, 2):
                if 0 <= min(marks_in(game)) + by and max(marks_in(game)) + by <= 9:
                    self.assertEqual(values(raised(game, by)), numbers(expected))
                    told += by != 0
        self.assertGreater(told, 100)

    def test_all_pairs_of_marks(self):
        for mark in range(10):
            for other in range(10):
                self.assertIs(is_better(mark, other), FAVOUR.index(mark) > FAVOUR.index(other))
            self.assertIs(is_better(mark, mark), False)

    def test_better_marks_lower_no_value(self):
        rng = random.Random(116)
        raised_ones = 0
        for game, told in SEARCHED:
            for _ in range(4):
                marks = [rng.choice(FAVOUR[FAVOUR.index(mark):]) if rng.random() < 0.5 else mark
                         for mark in marks_in(game)]
                self.assertTrue(all(mark == before or is_better(mark, before)
                                    for mark, before in zip(marks, marks_in(game))))
                other = fractions(values(with_marks(game, marks)))
                self.assertTrue(all(before <= behind for before, behind in zip(told, other)))
                raised_ones += told != other
        self.assertGreater(raised_ones, 60)


class IdleTest(oracles.CrownTestCase):
    def test_as_the_document_shows_it(self):
        self.assertEqual(idle_places(SHOWN), [0])
        self.assertEqual(without_idle_marks(SHOWN), [(0, "ours", [1, 2])] + SHOWN[1:])

    def test_against_all_lists_of_places(self):
        some = 0
        for game in GAMES:
            lying = {place for company in companies_by_search(game, range(len(game))) for place in company}
            expected = [place for place in range(len(game)) if place not in lying]
            self.assertEqual(idle_places(game), expected)
            told = [0 if place in expected else mark for place, mark in enumerate(marks_in(game))]
            self.assertEqual(without_idle_marks(game), marked(game, told))
            some += len(expected) > 1
        self.assertGreater(some, 20)

    def test_whatever_their_marks_are_the_values_are_the_same(self):
        rng = random.Random(117)
        for game, told in SEARCHED:
            idle = idle_places(game)
            self.assertEqual(values(without_idle_marks(game)), numbers(told))
            for _ in range(3):
                marks = [rng.randrange(10) if place in idle else mark for place, mark in enumerate(marks_in(game))]
                self.assertEqual(values(marked(game, marks)), numbers(told))

    def test_no_idle_places_and_all_but_one(self):
        self.assertEqual(idle_places(oracles.ring(24, "theirs", 3)), [])
        game = [(5, "ours", [x + 1]) for x in range(23)] + [(2, "draw", [((1, 1), 23)])]
        self.assertEqual(idle_places(game), list(range(23)))
        self.assertEqual(marks_in(without_idle_marks(game)), [0] * 23 + [2])


class MatterTest(oracles.CrownTestCase):
    def test_the_place_itself_and_another_one(self):
        game = [(0, "ours", [0, 1]), (1, "theirs", [0])]
        self.assertEqual(values_by_mark(game, 0, at=0), [((mark + 1) % 2, 1) for mark in range(10)])
        self.assertEqual(values_by_mark(game, 0, at=1), [((mark + 1) % 2, 1) for mark in range(10)])
        self.assertEqual(values_by_mark(game, 1, at=0), [(1, 1)] * 10)
        half = [(2, "draw", [((1, 2), 1), ((1, 2), 2)]), (1, "draw", [((1, 1), 1)]), (4, "theirs", [2])]
        self.assertEqual(values_by_mark(half, 1, at=0), [(1, 1), (1, 2)] * 5)
        self.assertEqual(values_by_mark(half, 1, at=1), [(1, 1), (0, 1)] * 5)
        self.assertEqual(values_by_mark(half, 1, at=2), [(1, 1)] * 10)
        self.assertEqual(values_by_mark(half, 0, at=0), [(1, 2)] * 10)

    def test_against_all_pairs_of_strategies(self):
        between = 0
        for game in GAMES[:32]:
            for place in range(len(game)):
                searched = [oracles.Search(marked(game, marks_in(game)[:place] + [mark] + marks_in(game)[place + 1:]))
                            for mark in range(10)]
                for at in range(len(game)):
                    found = values_by_mark(game, place, at=at)
                    self.assert_numbers(found)
                    self.assertEqual(found, numbers([search.values[at] for search in searched]))
                    between += len(set(found)) > 1
                present = searched[game[place][0]].values
                self.assertIs(mark_matters(game, place), any(search.values != present for search in searched))
        self.assertGreater(between, 60)

    def test_marks_that_matter_at_another_place(self):
        self.assertEqual([mark_matters(ELSEWHERE, place) for place in range(4)], [True, True, False, False])
        self.assertEqual(values_by_mark(ELSEWHERE, 0, at=2), [(1, 1), (0, 1)] * 5)
        self.assertEqual(values_by_mark(ELSEWHERE, 0, at=1), [(1, 1)] * 10)

    def test_a_mark_that_matters_anywhere_matters_at_its_own_place(self):
        # What a play is worth behind a place does not tell how it came there.
        for game in GAMES[:60] + oracles.large_games(120, 10, 8):
            for place in range(len(game)):
                own = values_by_mark(game, place, at=place)
                self.assertIs(mark_matters(game, place), len(set(own)) > 1)

    def test_a_mark_that_matters_only_beyond_the_other_ones(self):
        # The mark of 0 matters only above that of 1.
        game = [(2, "draw", [((1, 1), 1)]), (7, "draw", [((1, 1), 0)])]
        self.assertEqual(values_by_mark(game, 0, at=1), [(0, 1)] * 8 + [(1, 1), (0, 1)])
        self.assertIs(mark_matters(game, 0), True)
        self.assertIs(mark_matters([(2, "draw", [((1, 1), 1)]), (8, "draw", [((1, 1), 0)])], 0), True)
        self.assertIs(mark_matters([(8, "draw", [((1, 1), 1)]), (9, "draw", [((1, 1), 0)])], 0), False)


class AimOfTest(oracles.CrownTestCase):
    def test_each_of_the_four_forms(self):
        self.assertEqual(aim_of(chain_of_marks([0, 0, 0])), ("stay", [0, 1, 2]))
        self.assertEqual(aim_of(chain_of_marks([8, 2, 4])), ("stay", [0, 1, 2]))
        self.assertEqual(aim_of(chain_of_marks([1, 1])), ("reach", []))
        self.assertEqual(aim_of(chain_of_marks([9, 3])), ("reach", []))
        self.assertEqual(aim_of(chain_of_marks([1, 0, 1, 0])), ("settle", [1, 3]))
        self.assertEqual(aim_of(chain_of_marks([9, 4, 7, 2])), ("settle", [1, 3]))
        self.assertEqual(aim_of(chain_of_marks([1, 2, 1, 2])), ("again", [1, 3]))
        self.assertEqual(aim_of(chain_of_marks([5, 8, 3, 6])), ("again", [1, 3]))

    def test_three_marks_and_more(self):
        for marks in [[0, 1, 2], [1, 2, 3], [4, 5, 6, 7], [9, 8, 7, 6], [0, 3, 8], [1, 4, 9]]:
            self.assertIsNone(aim_of(chain_of_marks(marks)))
        self.assertIsNone(aim_of(SHOWN))

    def test_three_marks_of_which_two_are_one_group(self):
        self.assertEqual(aim_of(chain_of_marks([0, 2, 3])), ("settle", [0, 1]))
        self.assertEqual(aim_of(chain_of_marks([3, 1, 4])), ("again", [2]))

    def test_plays_that_end_in_a_circle(self):
        rng = random.Random(118)
        kinds = {}
        for game in GAMES + oracles.large_games(119, 30, 12):
            aim = aim_of(game)
            if aim is None:
                self.assertGreater(len(set(marks_in(pressed(game)))), 2)
                continue
            self.assertIs(type(aim), tuple)
            for _ in range(10):
                play = [rng.randrange(len(game))]
                while play[-1] not in play[:-1]:
                    play.append(rng.choice(oracles.steps_of(game[play[-1]])))
                begin = play.index(play[-1])
                beginning, circle = play[:begin], play[begin:-1]
                won = max(game[place][0] for place in circle) % 2 == 0
                self.assertIs(is_fulfilled(aim, beginning, circle), won)
                kinds.setdefault(aim[0], set()).add(won)
        self.assertEqual(kinds, {"stay": {True}, "reach": {False}, "settle": {True, False}, "again": {True, False}})

    def test_the_values_of_the_aim_are_those_of_the_game(self):
        told = 0
        for game, expected in SEARCHED:
            if aim_of(game) is not None:
                told += 1
                self.assertEqual(aim_values(game, aim_of(game)), numbers(expected))
        self.assertGreater(told, 30)


if __name__ == "__main__":
    unittest.main()
