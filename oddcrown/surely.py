"""Where a side wins surely, almost surely, with some chance or never (points 38 to 42)."""

from oddcrown.companies import won_in
from oddcrown.crowns import answer_of, values
from oddcrown.games import targets, with_strategy
from oddcrown.ratios import ONE, ZERO
from oddcrown.regions import OTHER_SIDE

CERTAIN_VALUES = {"ours": ONE, "theirs": ZERO}


def against_us(game):
    """Return the game against us."""
    return [(mark, "ours" if kind == "ours" else "theirs", targets(game, place))
            for place, (mark, kind, _) in enumerate(game)]


def surely(game):
    """Return the ascending list of the places from which we win surely."""
    return almost_surely(against_us(game), "ours")


def surely_paper(game):
    """Return a list of places and a strategy of each side that show where we win surely."""
    numbers, ours, theirs = answer_of(against_us(game))
    return _places_with(numbers, ONE), ours, theirs


def _places_with(numbers, worth):
    return [place for place, number in enumerate(numbers) if number == worth]


def shows_surely(game, places, ours, theirs):
    """Return True if the strategies show that we win surely from these places and from no others."""
    told = against_us(game)
    others = [place for place in range(len(game)) if place not in places]
    # Nothing is left to chance in the game against us, so what is won almost surely is won in every play.
    return shows_almost(told, "ours", places, ours) and shows_almost(told, "theirs", others, theirs)


def almost_surely(game, side):
    """Return the ascending list of the places from which the side wins almost surely."""
    return _places_with(values(game), CERTAIN_VALUES[side])


def almost_paper(game, side):
    """Return the list of the places from which the side wins almost surely, and a strategy that shows it."""
    numbers, ours, theirs = answer_of(game)
    return _places_with(numbers, CERTAIN_VALUES[side]), (ours if side == "ours" else theirs)


def shows_almost(game, side, places, strategy):
    """Return True if the list and the strategy show that the side wins almost surely."""
    told = with_strategy(game, side, strategy)
    if not all([target in places for place in places for target in targets(told, place)]):
        return False
    return won_in(told, places, side=OTHER_SIDE[side]) == []


def standings(game):
    """Return the list of the standings of all places."""
    sure = surely(game)
    return [_standing(number, place in sure) for place, number in enumerate(values(game))]


def _standing(number, is_sure):
    if is_sure:
        return "sure"
    if number == ONE:
        return "almost"
    return "never" if number == ZERO else "some"
