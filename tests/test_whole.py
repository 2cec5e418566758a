"""The whole program: a sheet, its values, an answer, its strategies, a watch, and the interface of the document."""

import copy
import importlib
import inspect
import unittest

import oracles
from oddcrown import errors
from oddcrown.against import greatest_against, least_against, shows_greatest, shows_least
from oddcrown.branches import good_branches, held_to, swing
from oddcrown.chains import are_winning, winning_chances
from oddcrown.companies import greatest_companies
from oddcrown.crowns import answer_of, check_answer, is_best, values
from oddcrown.games import check_game, check_strategy, is_chain, with_strategy
from oddcrown.joining import classes_of, merged, turned_about
from oddcrown.kinds import aim_values
from oddcrown.leaks import are_leaking, leaking_values
from oddcrown.marks import aim_of, pressed, without_idle_marks
from oddcrown.sheets import read_choices, read_sheet, write_choices, write_sheet
from oddcrown.steps import good_moves, values_of_steps
from oddcrown.surely import almost_paper, shows_almost, shows_surely, standings, surely_paper
from oddcrown.watch import Watch, replay
from oracles import fractions

SHEET = """gate 2 ours hall tower gate
hall 1 chance 1/2 gate 1/3 moat 1/6 well
tower 3 theirs hall tower moat
moat 5 chance 2/3 moat 1/3 hall
well 4 ours well tower
keep 0 theirs keep gate
"""
INTERFACE = {
    "games": ["check_game(game)", "check_strategy(game, side, strategy)", "targets(game, place)",
              "places_of(game, kind)", "marks_of(game)", "is_chain(game)", "with_strategy(game, side, strategy)",
              "exchanged(game)", "reached(game, place)"],
    "sheets": ["is_name(value)", "read_chance(word)", "read_sheet(text)", "write_sheet(game, names)",
               "read_choices(game, names, side, text)", "write_choices(names, strategy)"],
    "chains": ["closed_classes(chain)", "winning_chances(chain)", "are_winning(chain, numbers)",
               "mark_chances(chain, place)", "long_shares(chain, place)", "returning(chain, place)",
               "steps_to_rest(chain)", "long_gains(chain)"],
    "companies": ["can_be_kept(game, places)", "rounds_out(game, places)", "staying(game, places)",
                  "is_company(game, places)", "greatest_companies(game, places)", "company_mark(game, places)",
                  "marks_of_companies(game, places)", "won_in(game, places, *, side)",
                  "distances(game, places, place)", "return_to(game, places, place)"],
    "against": ["are_numbers(game, numbers)", "is_lower(game, numbers, *, ours)",
                "is_upper(game, numbers, *, theirs)", "least_against(game, ours)", "greatest_against(game, theirs)",
                "shows_least(game, numbers, *, ours, theirs)", "shows_greatest(game, numbers, *, ours, theirs)"],
    "crowns": ["values(game)", "answer_of(game)", "check_answer(game, answer)", "is_best(game, strategy, *, side)",
               "value_classes(game)", "edges_of_classes(game)"],
    "branches": ["held_to(game, place, branch)", "worths(game, place)", "good_branches(game)",
                 "handed_over(game, place)", "swing(game, place, *, seen)"],
    "surely": ["against_us(game)", "surely(game)", "surely_paper(game)", "shows_surely(game, places, ours, theirs)",
               "almost_surely(game, side)", "almost_paper(game, side)",
               "shows_almost(game, side, places, strategy)", "standings(game)"],
    "kinds": ["is_fulfilled(aim, beginning, circle)", "opposite(game, aim)", "with_aim(game, aim)",
              "aim_values(game, aim)", "within_steps(game, places, steps)", "ranks_to(game, places)",
              "ways_to(game, places)"],
    "leaks": ["leak_of(mark, *, rate)", "leaking_values(game, *, rate)", "are_leaking(game, numbers, *, rate)",
              "leaking_strategies(game, *, rate)", "distance_of(game, *, rate)"],
    "marks": ["pressed(game)", "raised(game, by)", "with_marks(game, marks)", "is_better(mark, other)",
              "idle_places(game)", "without_idle_marks(game)", "values_by_mark(game, place, *, at)",
              "mark_matters(game, place)", "aim_of(game)"],
    "steps": ["first_marks(chain, place, *, steps)", "values_of_steps(game, *, steps)",
              "good_moves(game, place, *, greatest, steps)"],
    "watch": ["Watch(game)", "replay(game, journal)"],
    "joining": ["turned_about(game)", "kept_game(game, company, *, side)", "classes_of(game)", "merged(game)"],
}
METHODS = ["mark(self, place, mark)", "strike(self, place, branch)", "put(self, place, branch)",
           "turn(self, place, chances)", "undo(self)", "redo(self)", "do_all(self, deeds)", "what_if(self, deeds)",
           "game(self)", "present_values(self)", "standing(self, place)", "struck(self)", "journal(self)"]
ERRORS = {"CrownError": (), "BadSize": (), "BadMark": (), "BadKind": (), "BadNumber": (), "BadChance": (),
          "BadTarget": (), "BadStrategy": ("place",), "BadText": ("line", "column"), "UnknownName": ("line", "column"),
          "TwoNames": ("line",), "NotHere": (), "NoBranch": (), "NotSo": (), "LastBranch": (), "NothingToUndo": (),
          "NothingToRedo": (), "BadEntry": ("place",)}


class InterfaceTest(oracles.CrownTestCase):
    def test_names_and_arguments(self):
        for file, told in INTERFACE.items():
            found = importlib.import_module(f"oddcrown.{file}")
            for line in told:
                name = line[:line.index("(")]
                self.assertEqual(name + str(inspect.signature(getattr(found, name))), line)
                self.assertEqual(getattr(found, name).__module__, f"oddcrown.{file}")
        for line in METHODS:
            name = line[:line.index("(")]
            self.assertEqual(name + str(inspect.signature(vars(Watch)[name])), line)

    def test_errors(self):
        self.assertTrue(issubclass(errors.CrownError, ValueError))
        for name, fields in ERRORS.items():
            error = getattr(errors, name)
            self.assertEqual(error.__module__, "oddcrown.errors")
            told = error(*range(len(fields)))
            self.assertEqual([getattr(told, field) for field in fields], list(range(len(fields))))
            if name != "CrownError":
                self.assertEqual(error.__bases__, (errors.CrownError,))


class WholeTest(oracles.CrownTestCase):
    def test_from_a_sheet_to_a_watch_and_back(self):
        game, names = read_sheet(SHEET)
        self.assertEqual(write_sheet(game, names), SHEET)
        kept = copy.deepcopy(game)
        told = values(game)
        self.assert_numbers(told)
        answer = answer_of(game)
        self.assertEqual(answer[0], told)
        self.assertIs(check_answer(game, answer), True)
        strategies = {}
        for side, strategy in zip(["ours", "theirs"], answer[1:]):
            text = write_choices(names, strategy)
            strategies[side] = read_choices(game, names, side, text)
            self.assertEqual(strategies[side], strategy)
            self.assertIs(is_best(game, strategies[side], side=side), True)
        self.assertIs(check_answer(game, (told, strategies["ours"], strategies["theirs"])), True)
        watch = Watch(game)
        self.assertEqual(watch.present_values(), told)
        before = told
        for deed in [("strike", 0, 2), ("mark", 2, 8), ("turn", 3, [(1, 9), (8, 9)]), ("undo",)]:
            changed = getattr(watch, deed[0])(*deed[1:])
            behind = watch.present_values()
            self.assertEqual(changed, [place for place in range(6) if before[place] != behind[place]])
            self.assertEqual(behind, values(watch.game()))
            before = behind
        sheet = write_sheet(watch.game(), names)
        self.assertEqual(read_sheet(sheet), (watch.game(), names))
        self.assertEqual(values(read_sheet(sheet)[0]), watch.present_values())
        self.assertEqual(sheet, SHEET.replace("gate 2 ours hall tower gate", "gate 2 ours hall tower")
                         .replace("tower 3", "tower 8"))
        other = replay(read_sheet(SHEET)[0], watch.journal())
        self.assertEqual(write_sheet(other.game(), names), sheet)
        self.assertEqual(other.redo(), watch.redo())
        self.assertEqual(game, kept)

    def test_the_parts_agree_about_games_of_many_places(self):
        for game in oracles.large_games(151, 12, 16):
            self.assertIsNone(check_game(game))
            told, ours, theirs = answer_of(game)
            self.assertIs(check_answer(game, (told, ours, theirs)), True)
            for side, strategy in [("ours", ours), ("theirs", theirs)]:
                self.assertIsNone(check_strategy(game, side, strategy))
            least, reply = least_against(game, ours)
            self.assertEqual(least, told)
            self.assertIs(shows_least(game, told, ours=ours, theirs=reply), True)
            greatest, reply = greatest_against(game, theirs)
            self.assertEqual(greatest, told)
            self.assertIs(shows_greatest(game, told, ours=reply, theirs=theirs), True)
            chain = with_strategy(with_strategy(game, "ours", ours), "theirs", theirs)
            self.assertIs(is_chain(chain), True)
            self.assertIs(are_winning(chain, told), winning_chances(chain) == told)
            for place, good in enumerate(good_branches(game)):
                if good is not None:
                    self.assertIn((ours if game[place][1] == "ours" else theirs)[place], good)
                    self.assertEqual(values(held_to(game, place, good[-1])), told)
                    self.assertGreaterEqual(swing(game, place, seen=0)[0], 0)

    def test_the_games_that_are_made_of_games_keep_their_values(self):
        for game in oracles.large_games(152, 20, 24):
            told = values(game)
            self.assertEqual(values(pressed(game)), told)
            self.assertEqual(values(without_idle_marks(game)), told)
            below = pressed(game)
            if max(place[0] for place in below) < 9:
                self.assertEqual([1 - value for value in fractions(values(turned_about(below)))], fractions(told))
            if aim_of(game) is not None:
                self.assertEqual(aim_values(game, aim_of(game)), told)
            try:
                joined = values(merged(game))
            except errors.BadNumber:
                continue
            self.assertEqual([joined[at] for at in classes_of(game)], told)

    def test_standings_and_papers_agree_with_the_values(self):
        for game in oracles.large_games(153, 20, 24):
            told, words = values(game), standings(game)
            self.assertIs(shows_surely(game, *surely_paper(game)), True)
            for side, value in [("ours", (1, 1)), ("theirs", (0, 1))]:
                places, strategy = almost_paper(game, side)
                self.assertEqual(places, [place for place in range(24) if told[place] == value])
                self.assertIs(shows_almost(game, side, places, strategy), True)
            for value, word in zip(told, words):
                self.assertIn(word, {(1, 1): ["sure", "almost"], (0, 1): ["never"]}.get(value, ["some"]))
            self.assertTrue(greatest_companies(game, list(range(24))))

    def test_leaks_and_steps(self):
        for game in oracles.large_games(154, 8, 8):
            told = leaking_values(game, rate=(1, 5))
            self.assertIs(are_leaking(game, told, rate=(1, 5)), True)
            steps = values_of_steps(game, steps=5)
            self.assert_numbers(told + steps)
            for place, (mark, kind, rest) in enumerate(game):
                moves = good_moves(game, place, greatest=mark, steps=5)
                self.assertEqual(moves == [], kind == "draw")

    def test_answers_stay_the_same_in_any_order(self):
        games = oracles.large_games(155, 6, 16)
        calls = [values, answer_of, standings, good_branches, classes_of, pressed, surely_paper]
        first = [[copy.deepcopy(call(game)) for call in calls] for game in games]
        again = [[call(copy.deepcopy(game)) for call in reversed(calls)] for game in reversed(games)]
        self.assertEqual([row[::-1] for row in again[::-1]], first)


if __name__ == "__main__":
    unittest.main()
