"""What each branch of a place is worth, and each place to its side (points 35 to 37)."""

from oddcrown.crowns import values
from oddcrown.games import EXCHANGED_KINDS, copied, targets
from oddcrown.ratios import difference_of


def held_to(game, place, branch):
    """Return the game in which the place is held to the branch."""
    told = copied(game)
    mark, kind, places = told[place]
    told[place] = (mark, kind, [places[branch]])
    return told


def worths(game, place):
    """Return the list of the worths of the branches of the place."""
    found = {}
    for branch, target in enumerate(targets(game, place)):
        if target not in found:
            found[target] = values(held_to(game, place, branch))[place]
    return [found[target] for target in targets(game, place)]


def good_branches(game):
    """Return for each place of a side the ascending list of its good branches, None for a draw."""
    numbers = values(game)
    return [None if game[place][1] == "draw" else _good_at(game, place, numbers) for place in range(len(game))]


def _good_at(game, place, numbers):
    good = {}
    for branch, target in enumerate(targets(game, place)):
        # A target with a lesser value for the side can only be worth less, if the place is held to it, too.
        if target not in good:
            good[target] = (numbers[target] == numbers[place]
                            and values(held_to(game, place, branch))[place] == numbers[place])
    return [branch for branch, target in enumerate(targets(game, place)) if good[target]]


def handed_over(game, place):
    """Return the game in which the place is handed over."""
    told = copied(game)
    mark, kind, places = told[place]
    told[place] = (mark, EXCHANGED_KINDS[kind], places)
    return told


def swing(game, place, *, seen):
    """Return the swing of the place, seen from the place `seen`."""
    handed = handed_over(game, place)
    if game[place][1] == "ours":
        return difference_of(values(game)[seen], values(handed)[seen])
    return difference_of(values(handed)[seen], values(game)[seen])
