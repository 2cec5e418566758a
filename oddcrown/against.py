"""Chances against a told strategy (points 27 to 31)."""

from oddcrown.alone import greatest_chances
from oddcrown.companies import won_in
from oddcrown.games import targets, with_strategy
from oddcrown.ratios import ONE, ZERO, is_less, mean_of, rest_to_one


def are_numbers(game, numbers):
    """Return True if the numbers are numbers of the game."""
    return len(numbers) == len(game) and all([0 <= n <= d for n, d in numbers])


def least_against(game, ours):
    """Return the least chances of the strategy of ours, and a reply of theirs."""
    chances, theirs = greatest_chances(with_strategy(game, "ours", ours), "theirs")
    return [rest_to_one(chance) for chance in chances], theirs


def greatest_against(game, theirs):
    """Return the greatest chances of the strategy of theirs, and a reply of ours."""
    return greatest_chances(with_strategy(game, "theirs", theirs), "ours")


def is_lower(game, numbers, *, ours):
    """Return True if the numbers are lower numbers of the game with the strategy of ours."""
    if not are_numbers(game, numbers):
        return False
    told = with_strategy(game, "ours", ours)
    # With the strategy put in, only draws and theirs are left, and of both the number is a lower bound.
    if not all([_is_at_most(told, place, numbers) for place in range(len(told))]):
        return False
    hopeful = [place for place in range(len(told)) if numbers[place] != ZERO]
    return won_in(told, hopeful, side="theirs") == []


def _is_at_most(game, place, numbers):
    return not any([is_less(bound, numbers[place]) for bound in _bounds(game, place, numbers)])


def _bounds(game, place, numbers):
    """Return what the number of the place is held against: the mean of a draw, or the number of each target."""
    if game[place][1] == "draw":
        return [mean_of(game[place][2], numbers)]
    return [numbers[target] for target in targets(game, place)]


def is_upper(game, numbers, *, theirs):
    """Return True if the numbers are upper numbers of the game with the strategy of theirs."""
    if not are_numbers(game, numbers):
        return False
    told = with_strategy(game, "theirs", theirs)
    if not all([_is_at_least(told, place, numbers) for place in range(len(told))]):
        return False
    doubtful = [place for place in range(len(told)) if numbers[place] != ONE]
    return won_in(told, doubtful, side="ours") == []


def _is_at_least(game, place, numbers):
    return not any([is_less(numbers[place], bound) for bound in _bounds(game, place, numbers)])


def shows_least(game, numbers, *, ours, theirs):
    """Return True if the numbers and the strategy of theirs show that they are the least chances of that of ours."""
    told = with_strategy(game, "ours", ours)
    return is_lower(game, numbers, ours=ours) and is_upper(told, numbers, theirs=theirs)


def shows_greatest(game, numbers, *, ours, theirs):
    """Return True if the numbers and the strategy of ours show that they are the greatest chances of that of theirs."""
    told = with_strategy(game, "theirs", theirs)
    return is_upper(game, numbers, theirs=theirs) and is_lower(told, numbers, ours=ours)
