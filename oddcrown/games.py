"""Games and strategies: their checks, and what can be read off them (points 2 to 8)."""

from oddcrown.errors import BadChance, BadKind, BadMark, BadNumber, BadSize, BadStrategy, BadTarget
from oddcrown.ratios import ONE, is_above_zero, is_position, is_short, sum_of

MOST_PLACES = 24
MOST_BRANCHES = 6
MANY_MARKS = 10
KINDS = ("draw", "ours", "theirs")
EXCHANGED_KINDS = {"draw": "draw", "ours": "theirs", "theirs": "ours"}


def check_game(game):
    """Raise the first error of point 7 that is due for the game."""
    if not 1 <= len(game) <= MOST_PLACES:
        raise BadSize()
    for place in game:
        _check_place(place, len(game))


def _check_place(place, many):
    mark, kind, branches = place
    if not is_position(mark, MANY_MARKS):
        raise BadMark()
    if kind not in KINDS:
        raise BadKind()
    if not 1 <= len(branches) <= MOST_BRANCHES:
        raise BadSize()
    if kind == "draw":
        check_draw(branches, many)
    else:
        _check_targets(branches, many)


def check_draw(branches, many):
    """Raise the first error that is due for the branches of a draw in a game of so many places."""
    for chance, target in branches:
        if not is_short(chance):
            raise BadNumber()
        if not is_above_zero(chance):
            raise BadChance()
        if not is_position(target, many):
            raise BadTarget()
    if sum_of([branch[0] for branch in branches]) != ONE:
        raise BadChance()


def _check_targets(places, many):
    for target in places:
        if not is_position(target, many):
            raise BadTarget()


def check_strategy(game, side, strategy):
    """Raise the first error of point 8 that is due for the strategy of the side."""
    if len(strategy) != len(game):
        raise BadSize()
    for place, number in enumerate(strategy):
        if not _may_tell(game[place], side, number):
            raise BadStrategy(place)


def _may_tell(place, side, number):
    if place[1] == side:
        return is_position(number, len(place[2]))
    return number is None


def targets(game, place):
    """Return the list of the targets of the place, in the order of its branches."""
    branches = game[place][2]
    if game[place][1] == "draw":
        return [branch[1] for branch in branches]
    return list(branches)


def places_of(game, kind):
    """Return the ascending list of the places of this kind."""
    return [at for at, place in enumerate(game) if place[1] == kind]


def marks_of(game):
    """Return the ascending list of the marks that occur, each once."""
    return sorted({place[0] for place in game})


def is_chain(game):
    """Return True if no place of the game belongs to a side."""
    return len(places_of(game, "draw")) == len(game)


def copied(game):
    """Return the same game anew."""
    return [(mark, kind, list(branches)) for mark, kind, branches in game]


def with_strategy(game, side, strategy):
    """Return the game with the strategy of the side put in."""
    return [_place_with(place, side, number) for place, number in zip(game, strategy)]


def _place_with(place, side, number):
    mark, kind, branches = place
    if kind == side:
        return (mark, "draw", [(ONE, branches[number])])
    return (mark, kind, list(branches))


def exchanged(game):
    """Return the game with its sides exchanged."""
    return [(mark, EXCHANGED_KINDS[kind], list(branches)) for mark, kind, branches in game]


def reached(game, place):
    """Return the ascending list of the places that are reached from the place."""
    found = {place}
    waiting = [place]
    while waiting:
        here = waiting.pop()
        for target in targets(game, here):
            if target not in found:
                found.add(target)
                waiting.append(target)
    return sorted(found)
