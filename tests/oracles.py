"""What the tests hold the program against: the words of the document tried out by plain search, and games."""

import copy
import itertools
import random
import unittest
from fractions import Fraction

LONGEST_SEARCH = 200
OTHER = {"ours": "theirs", "theirs": "ours"}
PARITY = {"ours": 0, "theirs": 1}


class CrownTestCase(unittest.TestCase):
    def assert_numbers(self, values):
        """Each value is a tuple of two whole numbers in lowest terms."""
        for value in values:
            self.assertIs(type(value), tuple)
            self.assertEqual([type(part) for part in value], [int, int])
            self.assertEqual(value, number(Fraction(*value)))

    def assert_new(self, call, *told, **named):
        """The call modifies nothing, and changing what it returns changes no later answer."""
        before = copy.deepcopy((told, named))
        first = call(*told, **named)
        expected = copy.deepcopy(first)
        self.assertEqual((told, named), before)
        spoil(first)
        self.assertEqual((told, named), before)
        self.assertEqual(call(*told, **named), expected)

    def assert_unchanged(self, call, *told, **named):
        before = copy.deepcopy((told, named))
        answer = call(*told, **named)
        self.assertEqual((told, named), before)
        return answer


def spoil(value):
    """Change each list within the value."""
    if isinstance(value, (list, tuple)):
        for part in value:
            spoil(part)
    if isinstance(value, list):
        value.append("spoilt")
        value[0] = "spoilt"


def number(fraction):
    return (fraction.numerator, fraction.denominator)


def numbers(fractions):
    return [number(fraction) for fraction in fractions]


def fractions(told):
    return [Fraction(*value) for value in told]


def steps_of(place):
    return [x for _, x in place[2]] if place[1] == "draw" else list(place[2])


def put_in(game, side, strategy):
    return [(mark, "draw", [((1, 1), rest[branch])]) if kind == side else (mark, kind, rest)
            for (mark, kind, rest), branch in zip(game, strategy)]


def mirrored(game):
    """The game as the others see it: a play is won by the others here exactly if we win it there."""
    return [(mark + 1, OTHER.get(kind, kind), rest) for mark, kind, rest in game]


def lists_of(places):
    """All lists of these places."""
    return [list(part) for size in range(len(places) + 1) for part in itertools.combinations(places, size)]


def strategies(game, side):
    return [list(told) for told in itertools.product(*[range(len(rest)) if kind == side else [None]
                                                       for _, kind, rest in game])]


def solved(rows):
    """The fractions that solve the equations; each row ends with its sum."""
    for column in range(len(rows)):
        pivot = next(row for row in range(column, len(rows)) if rows[row][column] != 0)
        rows[column], rows[pivot] = rows[pivot], rows[column]
        rows[column] = [value / rows[column][column] for value in rows[column]]
        for row in range(len(rows)):
            if row != column and rows[row][column] != 0:
                rows[row] = [here - rows[row][column] * there for here, there in zip(rows[row], rows[column])]
    return [row[-1] for row in rows]


def reached_from(game, place, inside=None):
    """The places to which one or more steps lead from the place, all of them inside."""
    inside = range(len(game)) if inside is None else inside
    found, waiting = set(), [place]
    while waiting:
        for x in steps_of(game[waiting.pop()]):
            if x in inside and x not in found:
                found.add(x)
                waiting.append(x)
    return found


def classes_of(chain):
    """The closed classes."""
    found = []
    for place in range(len(chain)):
        ahead = sorted(reached_from(chain, place) | {place})
        if all(sorted(reached_from(chain, x) | {x}) == ahead for x in ahead) and ahead not in found:
            found.append(ahead)
    return found


def chances_into(chain, chosen):
    """The chance for each place of coming to one of the places of closed classes that are chosen."""
    known = {place: Fraction(int(place in chosen)) for places in classes_of(chain) for place in places}
    others = [place for place in range(len(chain)) if place not in known]
    rows = []
    for place in others:
        row = [Fraction(int(place == other)) for other in others] + [Fraction(0)]
        for chance, x in chain[place][2]:
            if x in known:
                row[-1] += Fraction(*chance) * known[x]
            else:
                row[others.index(x)] -= Fraction(*chance)
        rows.append(row)
    known.update(zip(others, solved(rows)))
    return [known[place] for place in range(len(chain))]


def chances_of_winning(chain):
    won = [place for places in classes_of(chain) for place in places if max(chain[x][0] for x in places) % 2 == 0]
    return chances_into(chain, won)


def play_out(game, ours, theirs):
    return chances_of_winning(put_in(put_in(game, "ours", ours), "theirs", theirs))


class Search:
    """The winning chances of all pairs of strategies, and what follows from them."""

    def __init__(self, game):
        every = range(len(game))
        self.ours, self.theirs = strategies(game, "ours"), strategies(game, "theirs")
        self.table = [[play_out(game, one, other) for other in self.theirs] for one in self.ours]
        self.least = [[min(chances[x] for chances in row) for x in every] for row in self.table]
        self.greatest = [[max(row[at][x] for row in self.table) for x in every] for at in range(len(self.theirs))]
        self.values = [max(chances[x] for chances in self.least) for x in every]
        assert self.values == [min(chances[x] for chances in self.greatest) for x in every]


def is_kept(game, places):
    return all(all(x in places for x in steps_of(game[place])) if game[place][1] == "draw"
               else any(x in places for x in steps_of(game[place])) for place in places)


def is_company_by_definition(game, places):
    return bool(places) and is_kept(game, places) and all(
        reached_from(game, place, places) == set(places) for place in places)


def companies_by_search(game, places):
    return [part for part in lists_of(places) if is_company_by_definition(game, part)]


def has_company(game, places, parity):
    """Whether some company within the list has a mark of this parity; for games of any size."""
    for top in places:
        if game[top][0] % 2 == parity:
            inside = {place for place in places if game[place][0] <= game[top][0]}
            while top in inside:
                kept = {place for place in inside if is_kept_at(game, place, inside)}
                kept &= {place for place in kept if top in reached_from(game, place, kept)}
                kept &= reached_from(game, top, kept)
                if kept == inside:
                    return True
                inside = kept
    return False


def is_kept_at(game, place, inside):
    told = [x in inside for x in steps_of(game[place])]
    return all(told) if game[place][1] == "draw" else any(told)


def is_lower_by_definition(game, told, ours):
    """Point 28, with fractions."""
    for place, (_, kind, rest) in enumerate(game):
        ahead = [told[x] for x in steps_of(game[place])]
        if kind == "draw" and told[place] > sum(Fraction(*chance) * told[x] for chance, x in rest):
            return False
        if kind == "ours" and told[place] > ahead[ours[place]]:
            return False
        if kind == "theirs" and told[place] > min(ahead):
            return False
    return not has_company(put_in(game, "ours", ours), [x for x in range(len(game)) if told[x] > 0], 1)


def is_upper_by_definition(game, told, theirs):
    """Point 29: what point 28 says of the game as the others see it."""
    return is_lower_by_definition(mirrored(game), [1 - value for value in told], theirs)


def parted(rng, parts, most):
    """So many short numbers greater than 0 with the sum 1."""
    weights = [rng.randint(1, most) for _ in range(parts)]
    return [number(Fraction(weight, sum(weights))) for weight in weights]


def random_game(rng, size, kinds=("draw", "ours", "theirs"), marks=10, branches=3, most=6, near=None):
    """A game at random; with `near`, most steps lead to places that are not farther off than this."""
    game = []
    for place in range(size):
        kind = rng.choice(kinds)
        least = 2 if kind == "draw" and rng.random() < 0.8 else 1
        ahead = [rng.randrange(size) for _ in range(rng.randint(least, max(least, branches)))]
        if near is not None:
            ahead = [x if rng.random() < 0.1 else min(size - 1, max(0, place + rng.randint(-near, near)))
                     for x in ahead]
        mark = rng.randrange(marks)
        game.append((mark, kind, list(zip(parted(rng, len(ahead), most), ahead)) if kind == "draw" else ahead))
    return game


def small_games(seed, many, kinds=("draw", "ours", "theirs"), size=7):
    """Games at random for which all pairs of strategies can be tried out."""
    rng = random.Random(seed)
    found = []
    while len(found) < many:
        near = rng.choice([None, 1, 2])
        places = rng.choice([rng.randint(1, size), size])
        told = kinds + ("draw",) if "draw" in kinds else kinds
        game = random_game(rng, places, told, rng.choice([2, 3, 4, 10]), rng.choice([2, 3]), 6, near)
        if rng.random() < 0.7 and len(game) > 3:
            # Two places that come to a stand, so that values between 0 and 1 are found more often.
            game[0] = (0, "draw", [((1, 1), 0)])
            game[-1] = (1, "draw", [((1, 1), len(game) - 1)])
        if len(strategies(game, "ours")) * len(strategies(game, "theirs")) <= LONGEST_SEARCH:
            found.append(game)
    return found


def small_chains(seed, many, size=6):
    return small_games(seed, many, ("draw",), size)


def large_games(seed, many, size, kinds=("draw", "ours", "theirs")):
    rng = random.Random(seed)
    found = []
    for _ in range(many):
        game = random_game(rng, size, kinds, rng.choice([2, 3, 4, 10]), rng.choice([2, 3, 6]), rng.choice([2, 6, 160]),
                           rng.choice([None, 1, 2, 4]))
        if rng.random() < 0.7:
            game[0] = (0, "draw", [((1, 1), 0)])
            game[-1] = (1, "draw", [((1, 1), size - 1)])
        found.append(game)
    return found


def line(size, up, *, marks=None):
    """A walk on a line: up with the chance `up`, else down, until it stands at one of the ends.

    The end with the least number is lost and the other one is won, if no other marks are told.
    """
    marks = [1] + [0] * (size - 1) if marks is None else marks
    down = number(1 - Fraction(*up))
    walk = [(marks[x], "draw", [(up, x + 1), (down, x - 1)]) for x in range(1, size - 1)]
    return ([(marks[0], "draw", [((1, 1), 0)])] + walk
            + [(marks[-1], "draw", [((1, 1), size - 1)])])


def ring(size, kind="draw", mark=0):
    """Places in a ring, each of which leads to the next one alone."""
    return [(mark, kind, [((1, 1), (x + 1) % size)] if kind == "draw" else [(x + 1) % size]) for x in range(size)]
