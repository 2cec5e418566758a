"""oddcrown.watch: points 63 to 67."""

import copy
import random
import time
import unittest
from fractions import Fraction

import oracles
from oddcrown import watch as module
from oddcrown.crowns import values
from oddcrown.errors import (BadChance, BadEntry, BadKind, BadMark, BadNumber, BadSize, BadTarget, CrownError,
                             LastBranch, NoBranch, NotHere, NothingToRedo, NothingToUndo, NotSo)
from oddcrown.surely import standings
from oddcrown.watch import Watch, replay
from oracles import fractions, number, numbers

SHOWN = [(1, "ours", [0, 1]), (2, "draw", [((1, 1), 1)])]
GAME = [(1, "ours", [1, 2, 1, 0]), (3, "theirs", [0, 2]), (2, "draw", [((1, 3), 0), ((2, 3), 3)]), (4, "ours", [3]),
        (5, "draw", [((1, 2), 4), ((1, 4), 0), ((1, 4), 4)])]
NO_PLACES = [True, False, -1, None, "0", "a", 5, 10 ** 9, (0,), [], (0, 1)]
NO_MARKS = [True, False, -1, 10, None, "1", "a", 10 ** 9, (1, 1), []]
NO_NUMBERS = [True, None, 1, "1/2", (1,), (1, 2, 1), (2, 4), (1, 1000), (1000, 999), (1, 0), (1, -2), [1, 2],
              (True, 2), ("1", 2), (None, 1)]


def is_position(value, many):
    return isinstance(value, int) and value is not True and value is not False and 0 <= value < many


def is_short(value):
    return (isinstance(value, tuple) and len(value) == 2 and all(is_position(abs(part), 1000) for part in value
                                                                 if type(part) is int)
            and all(type(part) is int for part in value) and value[1] > 0 and number(Fraction(*value)) == value)


class Model:
    """A watch as points 63 to 66 tell it, with whole games kept behind each deed."""

    def __init__(self, game):
        self.full = copy.deepcopy(game)
        self.out = set()
        self.past, self.undone, self.told = [], [], []

    def state(self):
        return copy.deepcopy((self.full, self.out))

    def present(self):
        return [(mark, kind, [part for at, part in enumerate(rest) if (place, at) not in self.out])
                for place, (mark, kind, rest) in enumerate(self.full)]

    def error_of(self, deed):
        """The error that is due for the deed, None if it can be done."""
        if deed[0] == "undo":
            return None if self.past else NothingToUndo
        if deed[0] == "redo":
            return None if self.undone else NothingToRedo
        word, place, told = deed
        if not is_position(place, len(self.full)):
            return BadTarget
        _, kind, rest = self.full[place]
        if word == "mark":
            return None if is_position(told, 10) else BadMark
        if (word == "turn") != (kind == "draw"):
            return NotHere
        if word == "turn":
            return self.error_of_chances(told, rest)
        if not is_position(told, len(rest)):
            return NoBranch
        if ((place, told) in self.out) == (word == "strike"):
            return NotSo
        if word == "strike" and len(self.present()[place][2]) == 1:
            return LastBranch
        return None

    @staticmethod
    def error_of_chances(chances, rest):
        if len(chances) != len(rest):
            return BadSize
        for chance in chances:
            if not is_short(chance):
                return BadNumber
            if chance[0] <= 0:
                return BadChance
        return None if sum(fractions(chances)) == 1 else BadChance

    def do(self, deed):
        if deed[0] == "undo":
            self.undone.append(self.state())
            self.full, self.out = self.past.pop()
        elif deed[0] == "redo":
            self.past.append(self.state())
            self.full, self.out = self.undone.pop()
        else:
            self.past.append(self.state())
            self.undone = []
            self.change(*deed)
        self.told.append(copy.deepcopy(deed))

    def change(self, word, place, told):
        mark, kind, rest = self.full[place]
        if word == "mark":
            self.full[place] = (told, kind, rest)
        elif word == "strike":
            self.out.add((place, told))
        elif word == "put":
            self.out.remove((place, told))
        else:
            self.full[place] = (mark, kind, [(chance, x) for chance, (_, x) in zip(told, rest)])


def done(watch, deed):
    """Do the deed by its own method."""
    return getattr(watch, deed[0])(*deed[1:])


def random_deed(rng, game):
    """A deed for a game with these places, which may be a wrong one."""
    word = rng.choice(["mark", "strike", "strike", "put", "put", "put", "turn", "turn", "undo", "undo", "redo", "redo"])
    if word in ("undo", "redo"):
        return (word,)
    place = rng.randrange(len(game)) if rng.random() < 0.95 else rng.choice(NO_PLACES)
    if word == "mark":
        return (word, place, rng.randrange(10) if rng.random() < 0.9 else rng.choice(NO_MARKS))
    many = len(game[place][2]) if is_position(place, len(game)) else 2
    if word == "turn":
        chances = oracles.parted(rng, many, 9)
        if rng.random() < 0.2:
            chances[rng.randrange(many)] = rng.choice(NO_NUMBERS + [(0, 1), (-1, 2), (1, 7)])
        if rng.random() < 0.1:
            chances.append((1, 2))
        return (word, place, chances)
    return (word, place, rng.randrange(many) if rng.random() < 0.95 else rng.choice([True, -1, None, 6, "0"]))


class WatchTestCase(oracles.CrownTestCase):
    def assert_like(self, watch, model):
        """The watch shows what the model tells."""
        present = model.present()
        self.assertEqual(watch.game(), present)
        self.assertEqual(watch.present_values(), values(present))
        self.assertEqual(watch.struck(), sorted(model.out))
        self.assertEqual(len(watch), len(model.out))
        self.assertIs(watch.can_undo, bool(model.past))
        self.assertIs(watch.can_redo, bool(model.undone))
        self.assertEqual(watch.journal(), model.told)

    def assert_same(self, one, other):
        """Both watches show the same, and go back and forth in the same way."""
        self.assertEqual(shown(one), shown(other))
        one, other = replay_like(one), replay_like(other)
        for word in ["redo", "undo", "redo"]:
            can = "can_" + word
            while getattr(one, can):
                self.assertIs(getattr(other, can), True)
                self.assertEqual(done(one, (word,)), done(other, (word,)))
                self.assertEqual(shown(one), shown(other))
            self.assertIs(getattr(other, can), False)


def shown(watch):
    return (watch.game(), watch.present_values(), watch.struck(), len(watch), watch.can_undo, watch.can_redo,
            watch.journal())


def replay_like(watch):
    return copy.deepcopy(watch)


class WatchTest(WatchTestCase):
    def test_as_the_document_shows_it(self):
        watch = Watch(SHOWN)
        self.assertEqual(watch.present_values(), [(1, 1), (1, 1)])
        self.assertEqual(watch.strike(0, 1), [0])
        self.assertEqual(watch.game(), [(1, "ours", [0]), (2, "draw", [((1, 1), 1)])])
        self.assertEqual(watch.mark(0, 4), [0])
        self.assertEqual(watch.undo(), [0])
        self.assertEqual(watch.present_values(), [(0, 1), (1, 1)])

    def test_a_new_watch(self):
        for game in [SHOWN, GAME] + oracles.small_games(141, 20):
            watch = Watch(game)
            self.assertEqual(watch.game(), game)
            self.assertEqual(watch.present_values(), values(game))
            self.assertEqual(watch.struck(), [])
            self.assertEqual(len(watch), 0)
            self.assertIs(watch.can_undo, False)
            self.assertIs(watch.can_redo, False)
            self.assertEqual(watch.journal(), [])
            self.assertEqual([watch.standing(place) for place in range(len(game))], standings(game))

    def test_a_wrong_game(self):
        for game, error in [([], BadSize), ([(10, "ours", [0])], BadMark), ([(True, "ours", [0])], BadMark),
                            ([(1, "mine", [0])], BadKind), ([(1, "ours", [])], BadSize),
                            ([(1, "ours", [1])], BadTarget), ([(1, "draw", [((1, 2), 0)])], BadChance),
                            ([(1, "draw", [((2, 2), 0)])], BadNumber)]:
            with self.assertRaises(error):
                Watch(game)
            with self.assertRaises(error):
                replay(game, [])
            with self.assertRaises(error):
                replay(game, [("undo",)])

    def test_the_class_and_the_function_stand_in_their_file(self):
        self.assertEqual(Watch.__module__, "oddcrown.watch")
        self.assertEqual(replay.__module__, "oddcrown.watch")
        for name in ["mark", "strike", "put", "turn", "undo", "redo", "do_all", "what_if", "game", "present_values",
                     "standing", "struck", "__len__", "can_undo", "can_redo", "journal", "__init__"]:
            self.assertIn(name, vars(Watch))
        self.assertIsInstance(vars(Watch)["can_undo"], property)
        self.assertIsInstance(vars(Watch)["can_redo"], property)
        self.assertIs(module.Watch, Watch)

    def test_many_deeds_at_random(self):
        rng = random.Random(142)
        wrong, right = {}, {}
        for game in [GAME, SHOWN] + oracles.small_games(143, 40):
            watch, model = Watch(game), Model(game)
            for _ in range(80):
                deed = random_deed(rng, game)
                error = model.error_of(deed)
                before = values(model.present())
                if error is not None:
                    wrong[error] = wrong.get(error, 0) + 1
                    with self.assertRaises(error) as caught:
                        done(watch, deed)
                    self.assertIs(type(caught.exception), error)
                    self.assert_like(watch, model)
                    continue
                right[deed[0]] = right.get(deed[0], 0) + 1
                model.do(deed)
                found = done(watch, deed)
                behind = values(model.present())
                self.assertEqual(found, [place for place in range(len(game)) if before[place] != behind[place]])
                self.assert_like(watch, model)
            self.assert_same(watch, replay(game, watch.journal()))
        self.assertGreater(min(right.values()), 5)
        self.assertEqual(set(right), {"mark", "strike", "put", "turn", "undo", "redo"})
        self.assertEqual(set(wrong), {BadTarget, BadMark, NotHere, NoBranch, NotSo, LastBranch, BadSize, BadNumber,
                                      BadChance, NothingToUndo, NothingToRedo})

    def test_games_of_24_places(self):
        rng = random.Random(144)
        for game in oracles.large_games(145, 5, 24):
            watch, model = Watch(game), Model(game)
            began = time.perf_counter()
            for _ in range(20):
                deed = random_deed(rng, game)
                if model.error_of(deed) is None:
                    model.do(deed)
                    done(watch, deed)
            watch.standing(23)
            self.assertLess(time.perf_counter() - began, 10)
            self.assert_like(watch, model)

    def test_a_long_journal_in_a_short_time(self):
        deeds = [("mark", step % 24, step % 10) for step in range(1500)] + [("undo",), ("redo",)] * 200
        game = oracles.large_games(146, 1, 24)[0]
        began = time.perf_counter()
        watch = replay(game, deeds)
        other = Watch(game)
        other.do_all(deeds)
        self.assertLess(time.perf_counter() - began, 5)
        self.assertEqual(watch.game(), other.game())


class DeedsTest(WatchTestCase):
    def assert_refused(self, watch, deed, error):
        before = copy.deepcopy(watch)
        with self.assertRaises(error) as caught:
            done(watch, deed)
        self.assertIs(type(caught.exception), error)
        self.assert_same(watch, before)

    def prepared(self):
        """A watch with a branch that is struck out, and deeds that can be undone and redone."""
        watch = Watch(GAME)
        watch.strike(0, 1)
        watch.mark(3, 6)
        watch.mark(4, 0)
        watch.turn(2, [(1, 5), (4, 5)])
        watch.undo()
        watch.undo()
        return watch

    def test_a_mark(self):
        watch = Watch(GAME)
        for mark in range(10):
            watch.mark(3, mark)
            self.assertEqual(watch.game(), GAME[:3] + [(mark, "ours", [3])] + GAME[4:])
            self.assertEqual(watch.present_values()[3], (1 - mark % 2, 1))

    def test_places_that_are_none(self):
        for place in NO_PLACES:
            for deed in [("mark", place, 3), ("mark", place, 10), ("strike", place, 0), ("strike", place, 9),
                         ("put", place, 0), ("put", place, None), ("turn", place, [(1, 1)]), ("turn", place, [])]:
                self.assert_refused(self.prepared(), deed, BadTarget)
            with self.assertRaises(BadTarget):
                self.prepared().standing(place)

    def test_marks_that_are_none(self):
        for mark in NO_MARKS:
            self.assert_refused(self.prepared(), ("mark", 0, mark), BadMark)
            self.assert_refused(self.prepared(), ("mark", 2, mark), BadMark)

    def test_branches_that_are_none(self):
        for branch in [True, False, -1, None, "0", 4, 10 ** 9, (0,), []]:
            self.assert_refused(self.prepared(), ("strike", 0, branch), NoBranch)
            self.assert_refused(self.prepared(), ("put", 0, branch), NoBranch)
        self.assert_refused(self.prepared(), ("strike", 1, 2), NoBranch)
        # Of a place with one branch alone another one is none at all.
        self.assert_refused(self.prepared(), ("strike", 3, 1), NoBranch)

    def test_draws_have_no_branches_that_are_struck_out(self):
        for branch in [0, 1, 2, True, None, 99]:
            self.assert_refused(self.prepared(), ("strike", 2, branch), NotHere)
            self.assert_refused(self.prepared(), ("put", 4, branch), NotHere)

    def test_branches_that_are_struck_out_already_or_not(self):
        self.assert_refused(self.prepared(), ("strike", 0, 1), NotSo)
        self.assert_refused(self.prepared(), ("put", 0, 0), NotSo)
        self.assert_refused(self.prepared(), ("put", 3, 0), NotSo)

    def test_the_last_branch(self):
        self.assert_refused(self.prepared(), ("strike", 3, 0), LastBranch)
        watch = Watch(GAME)
        for branch in [0, 1, 3]:
            watch.strike(0, branch)
        self.assert_refused(watch, ("strike", 0, 2), LastBranch)
        self.assert_refused(watch, ("strike", 0, 3), NotSo)
        self.assertEqual(watch.game()[0], (1, "ours", [1]))
        watch.put(0, 3)
        watch.strike(0, 2)
        self.assertEqual(watch.game()[0], (1, "ours", [0]))
        self.assertEqual(watch.struck(), [(0, 0), (0, 1), (0, 2)])
        self.assertEqual(len(watch), 3)

    def test_two_equal_branches_of_a_place(self):
        watch = Watch(GAME)
        self.assertEqual(watch.strike(0, 0), [])
        self.assertEqual(watch.game()[0], (1, "ours", [2, 1, 0]))
        self.assertEqual(watch.struck(), [(0, 0)])
        self.assert_refused(watch, ("strike", 0, 0), NotSo)
        watch.strike(0, 3)
        watch.strike(0, 2)
        self.assertEqual(watch.game()[0], (1, "ours", [2]))
        self.assertEqual(watch.struck(), [(0, 0), (0, 2), (0, 3)])
        watch.put(0, 2)
        self.assertEqual(watch.game()[0], (1, "ours", [2, 1]))
        watch.put(0, 0)
        self.assertEqual(watch.game()[0], (1, "ours", [1, 2, 1]))
        watch.put(0, 3)
        self.assertEqual(watch.game(), GAME)

    def test_chances(self):
        watch = Watch(GAME)
        watch.turn(4, [(1, 999), (499, 999), (499, 999)])
        self.assertEqual(watch.game()[4], (5, "draw", [((1, 999), 4), ((499, 999), 0), ((499, 999), 4)]))
        self.assert_refused(watch, ("turn", 0, [(1, 1)]), NotHere)
        self.assert_refused(watch, ("turn", 3, []), NotHere)
        self.assert_refused(watch, ("turn", 1, [None]), NotHere)
        for chances in [[], [(1, 1)], [(1, 2)] * 2, [(1, 4)] * 4, [None] * 2, [(2, 4)] * 4]:
            self.assert_refused(watch, ("turn", 4, chances), BadSize)
        for wrong in NO_NUMBERS:
            self.assert_refused(watch, ("turn", 4, [wrong, (1, 2), (1, 4)]), BadNumber)
            self.assert_refused(watch, ("turn", 4, [(1, 2), (1, 4), wrong]), BadNumber)
            # The first wrong chance tells the error.
            self.assert_refused(watch, ("turn", 4, [(0, 1), wrong, (1, 2)]), BadChance)
            self.assert_refused(watch, ("turn", 4, [wrong, (0, 1), (1, 2)]), BadNumber)
        for wrong in [(0, 1), (-1, 2), (-998, 999)]:
            self.assert_refused(watch, ("turn", 4, [(1, 2), wrong, (1, 2)]), BadChance)
        for wrong in [[(1, 3), (1, 3), (1, 4)], [(1, 2), (1, 2), (1, 2)], [(1, 1), (1, 1), (1, 1)],
                      [(1, 3), (1, 3), (332, 999)]]:
            self.assert_refused(watch, ("turn", 4, wrong), BadChance)

    def test_nothing_to_undo_and_nothing_to_redo(self):
        watch = Watch(GAME)
        self.assert_refused(watch, ("undo",), NothingToUndo)
        self.assert_refused(watch, ("redo",), NothingToRedo)
        watch.mark(0, 2)
        self.assert_refused(watch, ("redo",), NothingToRedo)
        watch.undo()
        self.assert_refused(watch, ("undo",), NothingToUndo)
        watch.redo()
        self.assert_refused(watch, ("redo",), NothingToRedo)
        # A deed that changes nothing is a deed all the same.
        watch.mark(0, 2)
        watch.undo()
        self.assertIs(watch.can_undo, True)
        watch.undo()
        self.assertEqual(watch.game(), GAME)
        self.assertIs(watch.can_undo, False)

    def test_back_and_forth(self):
        watch = Watch(GAME)
        games = [watch.game()]
        for deed in [("mark", 1, 8), ("strike", 0, 2), ("turn", 2, [(2, 3), (1, 3)]), ("strike", 1, 0), ("put", 0, 2)]:
            done(watch, deed)
            games.append(watch.game())
        for game in games[-2::-1]:
            watch.undo()
            self.assertEqual(watch.game(), game)
        for game in games[1:]:
            watch.redo()
            self.assertEqual(watch.game(), game)
        self.assertIs(watch.can_redo, False)

    def test_a_deed_takes_away_all_that_could_be_redone(self):
        for deed in [("mark", 0, 1), ("mark", 0, 5), ("strike", 0, 0), ("put", 0, 1), ("turn", 4, [(1, 3)] * 3)]:
            watch = self.prepared()
            self.assertIs(watch.can_redo, True)
            done(watch, deed)
            self.assertIs(watch.can_redo, False)
            self.assert_refused(watch, ("redo",), NothingToRedo)
            watch.undo()
            self.assertIs(watch.can_redo, True)

    def test_the_places_with_another_value_against_small_games(self):
        rng = random.Random(147)
        changes = 0
        for game in oracles.small_games(148, 60):
            watch = Watch(game)
            told = oracles.Search(game).values
            for _ in range(25):
                deed = random_deed(rng, game)
                try:
                    found = done(watch, deed)
                except CrownError:
                    continue
                behind = oracles.Search(watch.game()).values
                self.assertEqual(watch.present_values(), numbers(behind))
                self.assertEqual(found, [place for place in range(len(game)) if told[place] != behind[place]])
                changes += len(found) > 0
                told = behind
        self.assertGreater(changes, 50)

    def test_struck_out_branches_raise_or_lower_values(self):
        changes = dict.fromkeys(["ours", "theirs"], 0)
        for game in [GAME] + oracles.small_games(149, 80):
            for place, (_, kind, rest) in enumerate(game):
                if kind == "draw" or len(rest) == 1:
                    continue
                for branch in range(len(rest)):
                    watch = Watch(game)
                    before = fractions(watch.present_values())
                    struck = watch.strike(place, branch)
                    behind = fractions(watch.present_values())
                    for one, other in zip(before, behind):
                        self.assertTrue(one >= other if kind == "ours" else one <= other)
                    self.assertEqual(watch.put(place, branch), struck)
                    self.assertEqual(watch.game(), game)
                    changes[kind] += struck != []
        self.assertGreater(min(changes.values()), 10)

    def test_marks_of_one_parity_with_none_of_the_other_one_between(self):
        seen = 0
        for game in oracles.small_games(150, 60):
            for place in range(len(game)):
                for mark in range(game[place][0] % 2, 10, 2):
                    low, high = sorted([mark, game[place][0]])
                    if not any(low < other[0] < high and (other[0] - mark) % 2 for other in game):
                        self.assertEqual(Watch(game).mark(place, mark), [])
                        seen += 1
        self.assertGreater(seen, 500)

    def test_standings_of_the_present_game(self):
        watch = Watch(GAME)
        for deed in [("mark", 3, 5), ("strike", 0, 1), ("turn", 2, [(998, 999), (1, 999)]), ("mark", 4, 8)]:
            done(watch, deed)
            self.assertEqual([watch.standing(place) for place in range(5)], standings(watch.game()))


class TogetherTest(WatchTestCase):
    DEEDS = [("mark", 0, 2), ("strike", 0, 1), ("undo",), ("undo",), ("redo",), ("turn", 2, [(1, 2), (1, 2)]),
             ("strike", 0, 0), ("undo",), ("redo",), ("put", 0, 0), ("undo",)]

    def test_the_journal(self):
        watch = Watch(GAME)
        for deed in self.DEEDS:
            done(watch, deed)
        with self.assertRaises(NotSo):
            watch.strike(0, 0)
        with self.assertRaises(BadTarget):
            watch.mark(5, 1)
        self.assertEqual(watch.journal(), self.DEEDS)
        for entry in watch.journal():
            self.assertIs(type(entry), tuple)
        self.assertIs(type(watch.journal()[5][2]), list)

    def test_several_deeds_are_each_deed_one_after_another(self):
        one, other = Watch(GAME), Watch(GAME)
        before = one.present_values()
        found = one.do_all(self.DEEDS)
        for deed in self.DEEDS:
            done(other, deed)
        behind = one.present_values()
        self.assertEqual(found, [place for place in range(5) if before[place] != behind[place]])
        self.assert_same(one, other)

    def test_each_of_several_is_undone_by_itself(self):
        watch = Watch(GAME)
        watch.do_all([("mark", 0, 2), ("strike", 0, 1), ("mark", 4, 4)])
        watch.undo()
        self.assertEqual(watch.game(), [(2, "ours", [1, 1, 0])] + GAME[1:])
        watch.undo()
        self.assertEqual(watch.game(), [(2, "ours", [1, 2, 1, 0])] + GAME[1:])
        watch.redo()
        self.assertEqual(watch.struck(), [(0, 1)])

    def test_the_places_with_another_value_than_before_the_first_deed(self):
        watch = Watch(SHOWN)
        self.assertEqual(watch.do_all([("strike", 0, 1), ("mark", 0, 4)]), [])
        self.assertEqual(watch.do_all([("undo",)]), [0])
        self.assertEqual(watch.do_all([]), [])
        self.assertEqual(watch.do_all([("mark", 1, 3)]), [1])
        self.assertEqual(len(watch.journal()), 4)

    def test_a_wrong_deed_at_each_place_of_the_list(self):
        wrong = [(("mark", 9, 0), BadTarget), (("mark", 1, 10), BadMark), (("strike", 2, 0), NotHere),
                 (("strike", 1, True), NoBranch), (("put", 1, 1), NotSo), (("strike", 3, 0), LastBranch),
                 (("turn", 2, [(1, 1)]), BadSize), (("turn", 2, [(1, 1), None]), BadNumber),
                 (("turn", 2, [(1, 1), (1, 1)]), BadChance)]
        for deed, error in wrong:
            for at in range(len(self.DEEDS) + 1):
                watch = Watch(GAME)
                watch.do_all([("mark", 1, 7), ("mark", 3, 0), ("mark", 0, 9), ("undo",), ("undo",)])
                before = copy.deepcopy(watch)
                deeds = self.DEEDS[:at] + [deed] + self.DEEDS[at:]
                with self.assertRaises(error) as caught:
                    watch.do_all(deeds)
                self.assertIs(type(caught.exception), error)
                self.assert_same(watch, before)
                with self.assertRaises(error):
                    watch.what_if(deeds)
                self.assert_same(watch, before)
                with self.assertRaises(BadEntry) as caught:
                    replay(GAME, watch.journal() + deeds)
                self.assertEqual(caught.exception.place, 5 + at)

    def test_nothing_to_undo_or_redo_among_several(self):
        for deeds, error in [([("mark", 0, 2), ("undo",), ("undo",)], NothingToUndo),
                             ([("mark", 0, 2), ("redo",)], NothingToRedo),
                             ([("redo",), ("redo",)], NothingToRedo)]:
            watch = Watch(GAME)
            watch.mark(2, 2)
            watch.undo()
            before = copy.deepcopy(watch)
            with self.assertRaises(error):
                watch.do_all(deeds)
            self.assert_same(watch, before)

    def test_what_if(self):
        watch = Watch(GAME)
        watch.do_all([("mark", 1, 7), ("mark", 3, 0), ("undo",)])
        before = copy.deepcopy(watch)
        told = watch.what_if(self.DEEDS)
        self.assert_same(watch, before)
        self.assertEqual(watch.what_if([]), watch.present_values())
        self.assertEqual(watch.what_if([("redo",)]), values(GAME[:1] + [(7,) + GAME[1][1:]] + GAME[2:3]
                                                            + [(0,) + GAME[3][1:]] + GAME[4:]))
        watch.do_all(self.DEEDS)
        self.assertEqual(watch.present_values(), told)

    def test_replaying(self):
        watch = replay(GAME, self.DEEDS)
        other = Watch(GAME)
        other.do_all(self.DEEDS)
        self.assert_same(watch, other)
        self.assert_same(replay(GAME, []), Watch(GAME))
        self.assertIsInstance(watch, Watch)

    def test_the_first_entry_with_an_error(self):
        for journal, place in [([("undo",)], 0), ([("redo",)], 0), ([("mark", 0, 1), ("redo",), ("undo",)], 1),
                               ([("mark", 0, 1), ("undo",), ("undo",)], 2), ([("strike", 0, 0), ("strike", 0, 0)], 1),
                               ([("mark", True, 1)], 0), ([("put", 0, 0)] * 3, 0),
                               ([("strike", 0, 0), ("turn", 2, [(1, 2), (1, 3)]), ("put", 1, 1)], 1)]:
            with self.assertRaises(BadEntry) as caught:
                replay(GAME, journal)
            self.assertEqual(caught.exception.place, place)
            self.assertIs(type(caught.exception), BadEntry)


class ChangedTest(WatchTestCase):
    """Point 67: what is handed over on either side may be changed afterwards."""

    def test_the_handed_game(self):
        game = copy.deepcopy(GAME)
        watch = Watch(game)
        oracles.spoil(game)
        self.assertEqual(watch.game(), GAME)
        self.assertEqual(watch.present_values(), values(GAME))
        game = copy.deepcopy(GAME)
        watch = replay(game, [("strike", 0, 0)])
        oracles.spoil(game)
        watch.undo()
        self.assertEqual(watch.game(), GAME)

    def test_the_handed_chances_and_deeds(self):
        chances = [(1, 2), (1, 2)]
        watch = Watch(GAME)
        watch.turn(2, chances)
        oracles.spoil(chances)
        self.assertEqual(watch.game()[2], (2, "draw", [((1, 2), 0), ((1, 2), 3)]))
        self.assertEqual(watch.journal(), [("turn", 2, [(1, 2), (1, 2)])])
        deeds = [("turn", 2, [(1, 4), (3, 4)]), ("mark", 0, 3)]
        watch.do_all(deeds)
        oracles.spoil(deeds)
        self.assertEqual(watch.game()[2], (2, "draw", [((1, 4), 0), ((3, 4), 3)]))
        self.assertEqual(watch.journal()[1:], [("turn", 2, [(1, 4), (3, 4)]), ("mark", 0, 3)])
        journal = watch.journal()
        other = replay(GAME, journal)
        oracles.spoil(journal)
        self.assert_same(watch, other)

    def test_nothing_that_is_handed_in_is_modified(self):
        game, deeds = copy.deepcopy(GAME), copy.deepcopy(TogetherTest.DEEDS)
        watch = Watch(game)
        watch.what_if(deeds)
        watch.do_all(deeds)
        replay(game, deeds)
        chances = [(1, 2), (1, 2)]
        watch.turn(2, chances)
        watch.undo()
        self.assertEqual((game, deeds, chances), (GAME, TogetherTest.DEEDS, [(1, 2), (1, 2)]))

    def test_what_a_watch_returns(self):
        watch = Watch(GAME)
        watch.do_all(TogetherTest.DEEDS)
        expected = copy.deepcopy(shown(watch))
        for call in [watch.game, watch.present_values, watch.struck, watch.journal]:
            oracles.spoil(call())
            self.assertEqual(shown(watch), expected)
        oracles.spoil(watch.what_if([("mark", 0, 1)]))
        oracles.spoil(watch.what_if([]))
        self.assertEqual(shown(watch), expected)
        watch = Watch(SHOWN)
        oracles.spoil(watch.strike(0, 1))
        self.assertEqual(watch.undo(), [0])
        self.assertEqual(watch.redo(), [0])
        watch = Watch(GAME)
        watch.do_all(TogetherTest.DEEDS)
        while watch.can_undo:
            oracles.spoil(watch.game())
            watch.undo()
        self.assertEqual(watch.game(), GAME)


if __name__ == "__main__":
    unittest.main()
