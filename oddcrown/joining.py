"""Games turned about, kept and merged (points 68 to 70)."""

from oddcrown.errors import BadMark, BadNumber
from oddcrown.games import MANY_MARKS, exchanged
from oddcrown.ratios import is_short, sum_of


def turned_about(game):
    """Return the game that is turned about."""
    if any([place[0] + 1 >= MANY_MARKS for place in game]):
        raise BadMark()
    return [(mark + 1, kind, branches) for mark, kind, branches in exchanged(game)]


def kept_game(game, company, *, side):
    """Return the kept game of the company of the side."""
    names = {place: at for at, place in enumerate(company)}
    return [_kept_place(game[place], names, side) for place in company]


def _kept_place(place, names, side):
    mark, kind, branches = place
    if kind == side:
        return (mark, kind, [names[target] for target in branches if target in names])
    return (mark, kind, [(chance, names[target]) for chance, target in branches])


def classes_of(game):
    """Return for each place the number of its class in the division into places that are alike by their going."""
    classes = [0] * len(game)
    while True:
        # Each round parts classes and joins none.
        finer = _numbered([(place[0], place[1], tuple(_led_to(place, classes))) for place in game])
        if finer == classes:
            return classes
        classes = finer


def _numbered(signs):
    """Return a number for each sign, equal ones for equal signs, from 0 on in the order of the first ones."""
    numbers = {}
    for sign in signs:
        if sign not in numbers:
            numbers[sign] = len(numbers)
    return [numbers[sign] for sign in signs]


def _led_to(place, classes):
    """Return the ascending list of the classes into which the place leads, for a draw of branches into them."""
    _, kind, branches = place
    if kind != "draw":
        return sorted({classes[target] for target in branches})
    chances = {}
    for chance, target in branches:
        into = classes[target]
        chances[into] = sum_of([chances[into], chance]) if into in chances else chance
    return [(chances[into], into) for into in sorted(chances)]


def merged(game):
    """Return the merged game."""
    classes = classes_of(game)
    told = []
    for place, number in zip(game, classes):
        if number == len(told):
            told.append((place[0], place[1], _led_to(place, classes)))
    if not all([is_short(chance) for place in told if place[1] == "draw" for chance, _ in place[2]]):
        raise BadNumber()
    return told
