"""oddcrown.sheets: points 9 to 13."""

import copy
import random
import re
import unittest
from math import gcd

from oddcrown import errors
from oddcrown.sheets import is_name, read_chance, read_choices, read_sheet, write_choices, write_sheet

GATES = "gate 2 ours hall gate\nhall 1 chance 1/2 gate 1/2 hall\n"
GATES_GAME = [(2, "ours", [1, 0]), (1, "draw", [((1, 2), 0), ((1, 2), 1)])]
TOWN = ("a 0 theirs b b a\nb 9 ours c a b d b\nc1 5 chance 1/6 d 1/3 a 1/2 c1\nc 4 chance 1 c\n"
        "d 7 ours d\ndraw 3 theirs a b c c1 d draw\n")
TOWN_NAMES = ["a", "b", "c1", "c", "d", "draw"]
TOWN_GAME = [(0, "theirs", [1, 1, 0]), (9, "ours", [3, 0, 1, 4, 1]),
             (5, "draw", [((1, 6), 4), ((1, 3), 0), ((1, 2), 2)]), (4, "draw", [((1, 1), 3)]), (7, "ours", [4]),
             (3, "theirs", [0, 1, 3, 2, 4, 5])]
BAD_NAMES = ["", "1", "1a", "A", "aB", "a_", "a-", "a%", "a\t", "a\r", "\u00e4", "a\u00df", "a\u0663", "abcdefghijklm",
             "ours", "theirs", "chance"]
BAD_CHANCES = ["", "0", "00", "01", "001", "1000", "0/1", "1/0", "0/2", "2/4", "6/4", "3/1", "1/1", "999/1", "2/2",
               "1/02", "01/2", "1/1000", "1000/3", "1000/999", "1/", "/2", "/", "1//2", "1/2/3", "-1", "-1/2", "1/-2",
               "+1", "1/+2", "1.5", "a", "1a", "1/a", "one", " 1", "1 ", "1/ 2", "\u0661", "\u00b2", "1/\u00b2", "1\n",
               "1%", "1_0"]


class SheetsTestCase(unittest.TestCase):
    def assert_error(self, name, fields, call, *told):
        before = copy.deepcopy(told)
        with self.assertRaises(errors.CrownError) as caught:
            call(*told)
        self.assertIs(type(caught.exception), getattr(errors, name), told)
        self.assertEqual(vars(caught.exception), fields, told)
        self.assertEqual(told, before)

    def assert_bad_text(self, line, column, text):
        self.assert_error("BadText", {"line": line, "column": column}, read_sheet, text)


class WordsTest(unittest.TestCase):
    def test_names(self):
        for name in ["a", "z", "a0", "z9", "abcdefghijkl", "a00000000000", "draw", "our", "ours1", "their", "oursours",
                     "chances", "true", "none"]:
            self.assertIs(is_name(name), True, name)

    def test_strings_that_are_no_names(self):
        for name in BAD_NAMES + [" ", " a", "a ", "a b", "a\n", "\n", "a.b", "Ours", "`", "{", "a/", "a:", "0", "9z",
                                 "abcdefghijkl ", "a\x00", "\uff41"]:
            self.assertIs(is_name(name), False, name)

    def test_values_that_are_no_strings(self):
        for value in [None, True, False, 0, 1, 1.5, b"a", ["a"], ("a",), {"a": 1}, {"a"}, object(), str, len]:
            self.assertIs(is_name(value), False, value)

    def test_each_written_chance_is_read(self):
        for n in range(1, 1000, 7):
            self.assertEqual(read_chance(str(n)), (n, 1))
            for d in range(2, 1000, 11):
                self.assertEqual(read_chance(f"{n}/{d}"), (n, d) if gcd(n, d) == 1 else None)

    def test_edges_of_chances(self):
        told = {"1": (1, 1), "9": (9, 1), "10": (10, 1), "100": (100, 1), "999": (999, 1), "1/2": (1, 2), "3/2": (3, 2),
                "1/999": (1, 999), "999/998": (999, 998), "998/999": (998, 999), "10/11": (10, 11)}
        for word, chance in told.items():
            self.assertEqual(read_chance(word), chance)

    def test_words_that_are_no_chances(self):
        for word in BAD_CHANCES:
            self.assertIsNone(read_chance(word), word)


class ReadSheetTest(SheetsTestCase):
    def test_as_the_document_shows_it(self):
        self.assertEqual(read_sheet(GATES), (GATES_GAME, ["gate", "hall"]))
        self.assert_error("UnknownName", {"line": 1, "column": 13}, read_sheet, "gate 2 ours hall\n")

    def test_a_larger_sheet(self):
        self.assertEqual(read_sheet(TOWN), (TOWN_GAME, TOWN_NAMES))
        self.assertIsInstance(read_sheet(TOWN), tuple)

    def test_each_answer_is_new(self):
        game, names = read_sheet(TOWN)
        for place in game:
            place[2].clear()
        game.clear()
        names.clear()
        self.assertEqual(read_sheet(TOWN), (TOWN_GAME, TOWN_NAMES))

    def test_every_mark(self):
        for mark in range(10):
            self.assertEqual(read_sheet(f"a {mark} theirs a\n"), ([(mark, "theirs", [0])], ["a"]))

    def test_wrong_first_words(self):
        for name in BAD_NAMES:
            self.assert_bad_text(1, 1, f"{name} 0 ours a\n")
            self.assert_bad_text(3, 1, f"a 0 ours a\nb 0 ours a\n{name} 0 ours a\n")

    def test_wrong_marks(self):
        for mark in ["", "00", "10", "-1", "a", "ours", "+", "1.", "\u0661", "\u00b2", "%", "\t", "0\t"]:
            self.assert_bad_text(1, 5, f"abc {mark} ours abc\n")

    def test_wrong_words_for_the_kind(self):
        for word in ["", "our", "Ours", "draw", "chances", "oursa", "0", "theirs%"]:
            self.assert_bad_text(1, 7, f"abc 1 {word} abc\n")

    def test_wrong_targets(self):
        for name in BAD_NAMES + ["1/2"]:
            self.assert_bad_text(1, 10, f"a 0 ours {name}\n")
            self.assert_bad_text(1, 16, f"a 0 theirs a a {name} a\n")
            self.assert_bad_text(2, 16, f"b 0 ours b\na 0 chance 1/2 {name} 1/2 a\n")
            self.assert_bad_text(1, 22, f"a 0 chance 1/2 a 1/2 {name}\n")

    def test_wrong_chances(self):
        for word in BAD_CHANCES:
            if " " not in word and "\n" not in word:
                self.assert_bad_text(1, 12, f"a 0 chance {word} a\n")
                self.assert_bad_text(1, 18, f"a 0 chance 1/2 a {word} a\n")

    def test_empty_words(self):
        self.assert_bad_text(1, 1, " a 0 ours a\n")
        self.assert_bad_text(1, 3, "a  0 ours a\n")
        self.assert_bad_text(1, 5, "a 0  ours a\n")
        self.assert_bad_text(1, 10, "a 0 ours  a\n")
        self.assert_bad_text(1, 12, "a 0 ours a \n")
        self.assert_bad_text(1, 12, "a 0 ours a  \n")
        self.assert_bad_text(1, 12, "a 0 chance  1 a\n")
        self.assert_bad_text(1, 14, "a 0 chance 1  a\n")
        self.assert_bad_text(1, 16, "a 0 chance 1 a \n")
        self.assert_bad_text(1, 1, " \n")
        self.assert_bad_text(1, 3, "a \n")

    def test_the_first_wrong_word_is_told(self):
        self.assert_bad_text(1, 3, "a 10 our a\n")
        self.assert_bad_text(1, 5, "a 1 our A  \n")
        self.assert_bad_text(1, 1, "A 10 our\n")
        self.assert_bad_text(1, 12, "a 1 chance 2/4 A\n")

    def test_lines_that_end_too_early(self):
        for line in ["a", "abc", "a 0", "a 0 ours", "a 0 theirs", "a 0 chance", "a 0 chance 1", "a 0 chance 1/2 a 1/2",
                     "a 0 chance 3/2 b 1/2"]:
            self.assert_bad_text(1, len(line) + 1, line + "\n")
            self.assert_bad_text(2, len(line) + 1, f"b 0 ours b\n{line}\nb 0 ours b\n")
            self.assert_bad_text(1, len(line) + 1, line)

    def test_a_word_too_many(self):
        self.assert_bad_text(1, 16, "a 0 chance 1 a a\n")
        self.assert_bad_text(1, 12, "a 0 ours a 1\n")
        self.assert_bad_text(1, 12, "a 0 ours a ours\n")

    def test_empty_lines(self):
        self.assert_bad_text(1, 1, "\n")
        self.assert_bad_text(1, 1, "\na 0 ours a\n")
        self.assert_bad_text(2, 1, "a 0 ours a\n\n")
        self.assert_bad_text(2, 1, "a 0 ours a\n\nb 0 ours a\n")

    def test_a_last_line_without_a_newline(self):
        self.assert_bad_text(1, 11, "a 0 ours a")
        self.assert_bad_text(2, 15, "a 0 ours a\nb 0 chance 1 b")
        self.assert_bad_text(2, 3, "a 0 ours a\nb x chance 1 b")
        self.assert_bad_text(2, 1, "a 0 ours a\n ")
        self.assert_bad_text(1, 12, "a 0 ours a ")
        self.assert_bad_text(1, 2, "a")

    def test_signs_that_no_sheet_has(self):
        self.assert_bad_text(1, 10, "a 0 ours a\r\n")
        self.assert_bad_text(1, 1, "a\t0 ours a\n")
        self.assert_bad_text(1, 12, "a 0 ours a %\n")
        self.assert_bad_text(1, 1, "\ufeffa 0 ours a\n")
        self.assert_bad_text(1, 10, "a 0 ours a\x0bb\n")
        self.assert_bad_text(1, 10, "a 0 ours a\u2028b 0 ours a\n")
        self.assert_bad_text(1, 1, "a\u00a00 ours a\n")

    def test_the_first_wrong_line_is_told(self):
        self.assert_bad_text(2, 3, "a 0 ours a\nb x ours a\n\nd")
        self.assert_bad_text(1, 2, "a\nB\n")

    def test_the_form_comes_before_names_and_games(self):
        self.assert_bad_text(3, 1, "a 0 ours nobody\na 0 chance 1/2 a\n\n")
        self.assert_bad_text(2, 11, "a 0 ours nobody\na 0 ours a")

    def test_two_names(self):
        self.assert_error("TwoNames", {"line": 2}, read_sheet, "a 0 ours a\na 1 ours a\n")
        self.assert_error("TwoNames", {"line": 3}, read_sheet, "a 0 ours a\nb 1 ours a\nb 2 ours a\na 3 ours a\n")
        self.assert_error("TwoNames", {"line": 4}, read_sheet, "a 0 ours a\nb 1 ours a\nc 2 ours a\nb 3 ours a\n")

    def test_two_names_come_before_unknown_names(self):
        self.assert_error("TwoNames", {"line": 2}, read_sheet, "a 0 ours nobody\na 1 chance 1/2 a\n")

    def test_unknown_names(self):
        told = [(1, 12, "a 0 ours a b c\n"), (1, 10, "a 0 ours draw\n"), (1, 10, "a 0 ours aa\naaa 0 ours a\n"),
                (2, 20, "a 0 ours b\nb 0 chance 1/2 a 3 c\n"), (2, 14, "a 0 ours b\nb 0 chance 1 ab\nc 1 ours ba\n")]
        for line, column, text in told:
            self.assert_error("UnknownName", {"line": line, "column": column}, read_sheet, text)

    def test_unknown_names_come_before_the_game(self):
        self.assert_error("UnknownName", {"line": 2, "column": 10}, read_sheet, "a 0 chance 1/2 a\nb 0 ours c\n")
        many = "".join(f"a{k} 0 ours a0\n" for k in range(25))
        self.assert_error("UnknownName", {"line": 26, "column": 10}, read_sheet, many + "b 0 ours c\n")

    def test_the_number_of_lines_is_a_matter_of_the_game(self):
        self.assert_error("BadSize", {}, read_sheet, "")
        most = "".join(f"a{k} 0 ours a0\n" for k in range(24))
        self.assertEqual(read_sheet(most), ([(0, "ours", [0])] * 24, [f"a{k}" for k in range(24)]))
        self.assert_error("BadSize", {}, read_sheet, most + "b 0 ours a0\n")

    def test_the_number_of_branches_is_a_matter_of_the_game(self):
        for kind in ["ours", "theirs"]:
            self.assertEqual(read_sheet(f"a 0 {kind} a a a a a a\n"), ([(0, kind, [0] * 6)], ["a"]))
            self.assert_error("BadSize", {}, read_sheet, f"a 0 {kind} a a a a a a a\n")
        self.assertEqual(read_sheet("a 0 chance" + " 1/6 a" * 6 + "\n"), ([(0, "draw", [((1, 6), 0)] * 6)], ["a"]))
        self.assert_error("BadSize", {}, read_sheet, "a 0 chance" + " 1/7 a" * 7 + "\n")

    def test_the_sum_of_chances_is_a_matter_of_the_game(self):
        for chances in [["1/2"], ["2"], ["1/2", "1/3"], ["1/2", "1/2", "1/999"]]:
            words = " ".join(f"{chance} a" for chance in chances)
            self.assert_error("BadChance", {}, read_sheet, f"a 0 chance {words}\n")

    def test_the_first_error_of_the_game_is_told(self):
        self.assert_error("BadSize", {}, read_sheet, "a 0 ours a a a a a a a\nb 0 chance 1/2 a\n")
        self.assert_error("BadChance", {}, read_sheet, "b 0 chance 1/2 a\na 0 ours a a a a a a a\n")


class WriteSheetTest(SheetsTestCase):
    def test_sheets_are_written_as_they_were(self):
        for sheet in [GATES, TOWN, "z 9 theirs z\n", "a 0 chance 998/999 a 1/999 b\nb 1 chance 1 a\n"]:
            game, names = read_sheet(sheet)
            before = copy.deepcopy((game, names))
            self.assertEqual(write_sheet(game, names), sheet)
            self.assertEqual((game, names), before)

    def test_written_sheets_are_read_as_they_were(self):
        rng = random.Random(5)
        for _ in range(200):
            game, names = random_game(rng)
            self.assertEqual(read_sheet(write_sheet(game, names)), (game, names))

    def test_the_words(self):
        self.assertEqual(write_sheet(GATES_GAME, ["gate", "hall"]), GATES)
        self.assertEqual(write_sheet([(4, "draw", [((1, 1), 0)])], ["chances"]), "chances 4 chance 1 chances\n")


class ChoicesTest(SheetsTestCase):
    def assert_choice_error(self, name, fields, text, side="ours"):
        self.assert_error(name, fields, read_choices, TOWN_GAME, TOWN_NAMES, side, text)

    def test_as_the_document_shows_it(self):
        self.assertEqual(read_choices(GATES_GAME, ["gate", "hall"], "ours", "gate 1\n"), [1, None])

    def test_lines_in_any_order(self):
        self.assertEqual(read_choices(TOWN_GAME, TOWN_NAMES, "ours", "b 4\nd 0\n"), [None, 4, None, None, 0, None])
        self.assertEqual(read_choices(TOWN_GAME, TOWN_NAMES, "ours", "d 0\nb 4\n"), [None, 4, None, None, 0, None])
        self.assertEqual(read_choices(TOWN_GAME, TOWN_NAMES, "theirs", "draw 5\na 0\n"), [0, None, None, None, None, 5])

    def test_a_side_without_places(self):
        self.assertEqual(read_choices(GATES_GAME, ["gate", "hall"], "theirs", ""), [None, None])
        self.assert_error("UnknownName", {"line": 1, "column": 1}, read_choices, GATES_GAME, ["gate", "hall"], "theirs",
                          "gate 0\n")

    def test_each_answer_is_new(self):
        told = (copy.deepcopy(TOWN_GAME), list(TOWN_NAMES), "ours", "d 0\nb 4\n")
        before = copy.deepcopy(told)
        read_choices(*told).clear()
        self.assertEqual(told, before)
        self.assertEqual(read_choices(*told), [None, 4, None, None, 0, None])

    def test_the_form(self):
        told = [(1, ""), (1, " "), (1, " b 0"), (2, "b"), (3, "b "), (3, "b  0"), (3, "b 00"), (3, "b x"), (3, "b -1"),
                (5, "b 0 "), (5, "b 0 0"), (5, "b 0 d"), (1, "B 0"), (1, "ours 0"), (1, "1 0"), (3, "b 0\t"),
                (3, "b \u00b2"), (4, "bb ours"), (1, "b%"), (14, "abcdefghijkl  "), (1, "abcdefghijklm 0")]
        for column, line in told:
            self.assert_choice_error("BadText", {"line": 1, "column": column}, line + "\n")
            self.assert_choice_error("BadText", {"line": 2, "column": column}, f"b 0\n{line}\nx\n")

    def test_a_last_line_without_a_newline(self):
        self.assert_choice_error("BadText", {"line": 2, "column": 4}, "b 0\nd 0")
        self.assert_choice_error("BadText", {"line": 1, "column": 4}, "b 0")
        self.assert_choice_error("BadText", {"line": 1, "column": 2}, "b")
        self.assert_choice_error("BadText", {"line": 1, "column": 3}, "b x")
        self.assert_choice_error("BadText", {"line": 1, "column": 5}, "b 0 ")

    def test_the_form_comes_before_the_names(self):
        self.assert_choice_error("BadText", {"line": 4, "column": 2}, "nobody 0\nb 0\nb 0\nd\n")

    def test_unknown_names(self):
        for name in ["nobody", "a", "c", "draw"]:
            self.assert_choice_error("UnknownName", {"line": 1, "column": 1}, f"{name} 0\nb 0\n")
            self.assert_choice_error("UnknownName", {"line": 3, "column": 1}, f"b 0\nd 0\n{name} 0\n")
        self.assert_choice_error("UnknownName", {"line": 1, "column": 1}, "b 0\na 0\ndraw 0\n", "theirs")

    def test_two_names(self):
        self.assert_choice_error("TwoNames", {"line": 2}, "b 0\nb 0\n")
        self.assert_choice_error("TwoNames", {"line": 3}, "b 0\nd 0\nb 1\nd 1\n")

    def test_names_are_looked_at_line_by_line(self):
        self.assert_choice_error("TwoNames", {"line": 2}, "b 0\nb 0\nnobody 0\n")
        self.assert_choice_error("UnknownName", {"line": 2, "column": 1}, "b 0\nnobody 0\nb 0\n")
        self.assert_choice_error("UnknownName", {"line": 2, "column": 1}, "b 0\na 0\na 0\n")

    def test_places_without_a_line(self):
        self.assert_choice_error("BadSize", {}, "")
        self.assert_choice_error("BadSize", {}, "b 0\n")
        self.assert_choice_error("BadSize", {}, "d 9\n")

    def test_numbers_that_are_no_branches(self):
        self.assert_choice_error("BadStrategy", {"place": 1}, "b 5\nd 0\n")
        self.assert_choice_error("BadStrategy", {"place": 4}, "b 4\nd 1\n")
        self.assert_choice_error("BadStrategy", {"place": 1}, "d 9\nb 9\n")
        self.assert_choice_error("BadStrategy", {"place": 5}, "draw 6\na 2\n", "theirs")

    def test_write_choices(self):
        self.assertEqual(write_choices(TOWN_NAMES, [None, 4, None, None, 0, None]), "b 4\nd 0\n")
        self.assertEqual(write_choices(TOWN_NAMES, [2, None, None, None, None, 5]), "a 2\ndraw 5\n")
        self.assertEqual(write_choices(["a"], [None]), "")

    def test_written_choices_are_read_as_they_were(self):
        rng = random.Random(6)
        for _ in range(200):
            game, names = random_game(rng)
            for side in ["ours", "theirs"]:
                strategy = [rng.randrange(len(place[2])) if place[1] == side else None for place in game]
                before = copy.deepcopy((names, strategy))
                text = write_choices(names, strategy)
                self.assertEqual((names, strategy), before)
                self.assertEqual(read_choices(game, names, side, text), strategy)
                lines = text.splitlines(keepends=True)
                rng.shuffle(lines)
                self.assertEqual(read_choices(game, names, side, "".join(lines)), strategy)


NAME = "(?!(?:ours|theirs|chance)(?![a-z0-9]))[a-z][a-z0-9]{0,11}"
CHANCE = "[1-9][0-9]{0,2}(?:/[1-9][0-9]{0,2})?"
SHEET_WORDS = {"ours": [NAME], "theirs": [NAME], "chance": [CHANCE, NAME]}


def is_due(pattern, word):
    """The other way to tell whether a word is right: by a regular expression and the lowest terms."""
    if not re.fullmatch(pattern, word):
        return False
    n, _, d = word.partition("/")
    return pattern != CHANCE or d == "" or (d != "1" and gcd(int(n), int(d)) == 1)


def told_form_error(text):
    """The line and the column of the wrong form as point 11 tells them, or None."""
    lines = re.findall("[^\n]*\n|[^\n]+", text)
    for row, line in enumerate(lines):
        bare = line.rstrip("\n")
        column, words = 1, bare.split(" ")
        patterns = [NAME, "[0-9]", "ours|theirs|chance"]
        for at, word in enumerate(words):
            if at == 3:
                turn = SHEET_WORDS[words[2]]
                patterns = patterns + turn * len(words)
            if not is_due(patterns[at], word):
                return row + 1, column
            column += len(word) + 1
        whole = len(words) > 3 and (len(words) - 3) % len(SHEET_WORDS[words[2]]) == 0
        if not whole or not line.endswith("\n"):
            return row + 1, len(bare) + 1
    return None


def random_game(rng):
    many = rng.randint(1, 24)
    names = [f"{rng.choice('abxyz')}{k}{rng.choice(['', 'q', 'ours', '77'])}" for k in range(many)]
    game = []
    for _ in range(many):
        kind = rng.choice(["draw", "ours", "theirs"])
        reach = [rng.randrange(many) for _ in range(rng.randint(1, 6))]
        chances = [[(1, 1)], [(1, 998), (997, 998)], [(1, 2), (1, 3), (1, 6)], [(1, 4)] * 4, [(1, 5)] * 5,
                   [(1, 10)] * 4 + [(7, 20), (1, 4)]][len(reach) - 1]
        game.append((rng.randint(0, 9), kind, list(zip(chances, reach)) if kind == "draw" else reach))
    return game, names


class SpoiltSheetsTest(unittest.TestCase):
    def test_spoilt_sheets_raise_the_error_in_the_told_place(self):
        rng = random.Random(7)
        wrong = right = 0
        for _ in range(6000):
            text = rng.choice([GATES, TOWN, "a 0 chance 1/3 b 2/3 a\nb 1 ours a\n"])
            for _ in range(rng.randint(1, 3)):
                at, end = sorted([rng.randint(0, len(text)), rng.randint(0, len(text))])
                end = rng.choice([at, min(at + 1, len(text)), end])
                put = rng.choice(["", " ", "\n", "a", "0", "1/2", "2/4", "/", "ours", "A", "%", "\t"])
                text = text[:at] + put + text[end:]
            told = told_form_error(text)
            try:
                game, names = read_sheet(text)
                self.assertEqual(write_sheet(game, names), text)
                found = None
            except errors.BadText as error:
                found = (error.line, error.column)
            except errors.CrownError:
                found = None
            self.assertEqual(found, told, text)
            wrong += told is not None
            right += told is None
        self.assertGreater(wrong, 1000)
        self.assertGreater(right, 100)


if __name__ == "__main__":
    unittest.main()
