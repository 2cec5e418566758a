"""Sheets: games and strategies as texts with names for the places (points 9 to 13)."""

from oddcrown.errors import BadSize, BadText, TwoNames, UnknownName
from oddcrown.games import check_game, check_strategy, places_of
from oddcrown.ratios import is_short

LETTERS = "abcdefghijklmnopqrstuvwxyz"
DIGITS = "0123456789"
LONGEST_NAME = 12
LONGEST_NUMBER = 3
KIND_WORDS = ("ours", "theirs", "chance")
FIRST_BRANCH = 3


def is_name(value):
    """Return True if the value is a name for a place."""
    if not isinstance(value, str) or not 1 <= len(value) <= LONGEST_NAME:
        return False
    if value[0] not in LETTERS or value in KIND_WORDS:
        return False
    return all([sign in LETTERS or sign in DIGITS for sign in value])


def read_chance(word):
    """Return the chance that the word writes, or None if it writes none."""
    top, slash, bottom = word.partition("/")
    if slash == "":
        bottom = "1"
    elif bottom == "1":
        # A d of 1 is never written.
        return None
    if not _is_counting_word(top) or not _is_counting_word(bottom):
        return None
    chance = (int(top), int(bottom))
    return chance if is_short(chance) else None


def _is_counting_word(word):
    # A lone 0 is out as well: neither the n nor the d of a chance is 0.
    if not 1 <= len(word) <= LONGEST_NUMBER or word[0] == "0":
        return False
    return all([sign in DIGITS for sign in word])


def _is_digit(word):
    return len(word) == 1 and word in DIGITS


def read_sheet(text):
    """Return the game of the sheet and the names of its places."""
    rows = _read_rows(text, _is_right_in_sheet, _is_whole_in_sheet)
    names = [words[0] for words in rows]
    _check_names_differ(names)
    numbers = {name: place for place, name in enumerate(names)}
    _check_names_known(rows, numbers)
    game = [_place_of(words, numbers) for words in rows]
    check_game(game)
    return game, names


def _read_rows(text, is_right, is_whole):
    """Return the words of each line, or raise BadText for the first line that is wrong.

    `is_right(words, at)` is asked only if all the words before that one are right, and
    `is_whole(words)` only if all the words are.
    """
    lines = text.split("\n")
    # Behind the last newline stands nothing, or else a line that lacks its newline.
    ending = lines.pop()
    rows = []
    for line in lines:
        words = line.split(" ")
        _check_words(words, len(rows) + 1, is_right)
        if not is_whole(words):
            raise BadText(len(rows) + 1, len(line) + 1)
        rows.append(words)
    if ending != "":
        _check_words(ending.split(" "), len(rows) + 1, is_right)
        raise BadText(len(rows) + 1, len(ending) + 1)
    return rows


def _check_words(words, line, is_right):
    for at in range(len(words)):
        if not is_right(words, at):
            raise BadText(line, _column_of(words, at))


def _column_of(words, at):
    return sum([len(word) + 1 for word in words[:at]]) + 1


def _is_right_in_sheet(words, at):
    word = words[at]
    if at == 1:
        return _is_digit(word)
    if at == 2:
        return word in KIND_WORDS
    if at >= FIRST_BRANCH and words[2] == "chance" and (at - FIRST_BRANCH) % 2 == 0:
        return read_chance(word) is not None
    return is_name(word)


def _is_whole_in_sheet(words):
    if len(words) <= FIRST_BRANCH:
        return False
    return words[2] != "chance" or (len(words) - FIRST_BRANCH) % 2 == 0


def _check_names_differ(names):
    seen = set()
    for at, name in enumerate(names):
        if name in seen:
            raise TwoNames(at + 1)
        seen.add(name)


def _check_names_known(rows, numbers):
    for row, words in enumerate(rows):
        for at in _target_words(words):
            if words[at] not in numbers:
                raise UnknownName(row + 1, _column_of(words, at))


def _target_words(words):
    """Return the list of the positions at which the line names its targets."""
    if words[2] == "chance":
        return list(range(FIRST_BRANCH + 1, len(words), 2))
    return list(range(FIRST_BRANCH, len(words)))


def _place_of(words, numbers):
    mark = int(words[1])
    places = [numbers[words[at]] for at in _target_words(words)]
    if words[2] != "chance":
        return (mark, words[2], places)
    chances = [read_chance(word) for word in words[FIRST_BRANCH::2]]
    return (mark, "draw", list(zip(chances, places)))


def write_sheet(game, names):
    """Return the sheet of the game with these names."""
    return "".join([_write_line(name, place, names) for name, place in zip(names, game)])


def _write_line(name, place, names):
    mark, kind, branches = place
    if kind == "draw":
        words = ["chance"] + [f"{_write_chance(chance)} {names[target]}" for chance, target in branches]
    else:
        words = [kind] + [names[target] for target in branches]
    return " ".join([name, str(mark)] + words) + "\n"


def _write_chance(chance):
    n, d = chance
    return str(n) if d == 1 else f"{n}/{d}"


def read_choices(game, names, side, text):
    """Return the strategy of the side that the text tells."""
    rows = _read_rows(text, _is_right_in_choices, _is_whole_in_choices)
    numbers = {names[place]: place for place in places_of(game, side)}
    strategy = [None] * len(game)
    for row, (name, digit) in enumerate(rows):
        if name not in numbers:
            raise UnknownName(row + 1, 1)
        if strategy[numbers[name]] is not None:
            raise TwoNames(row + 1)
        strategy[numbers[name]] = int(digit)
    # Each line told another place of the side, so there are as many lines as told places.
    if len(rows) != len(numbers):
        raise BadSize()
    check_strategy(game, side, strategy)
    return strategy


def _is_right_in_choices(words, at):
    if at == 0:
        return is_name(words[at])
    return at == 1 and _is_digit(words[at])


def _is_whole_in_choices(words):
    return len(words) == 2


def write_choices(names, strategy):
    """Return the text of the strategy of a side."""
    return "".join([f"{name} {number}\n" for name, number in zip(names, strategy) if number is not None])
