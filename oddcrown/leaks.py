"""Leaking games: plays that can end at each place (points 49 to 53)."""

from oddcrown.crowns import values
from oddcrown.equations import chain_numbers
from oddcrown.games import MANY_MARKS, places_of, targets, with_strategy
from oddcrown.ratios import (ONE, ZERO, difference_of, greatest_of, least_of, mean_of, product_of, rest_to_one,
                             sum_of)


def leak_of(mark, *, rate):
    """Return the chance with which a place of the mark leaks."""
    leak = ONE
    for _ in range(mark, MANY_MARKS):
        leak = product_of(leak, rate)
    return leak


def leaking_values(game, *, rate):
    """Return the leaking values of the game with the rate."""
    choices = [None if place[1] == "draw" else 0 for place in game]
    while True:
        numbers = _numbers_of(game, choices, rate)
        # We choose anew only where the others cannot do better any more: so no number that
        # is found in this way becomes less again, and no choices come back.
        moves = _better_choices(game, "theirs", choices, numbers)
        if not moves:
            moves = _better_choices(game, "ours", choices, numbers)
        if not moves:
            return numbers
        for place, branch in moves.items():
            choices[place] = branch


def _numbers_of(game, choices, rate):
    """Return the chances of winning the leaking game if both sides choose as it is told."""
    told = with_strategy(with_strategy(game, "ours", choices), "theirs", choices)
    ends = [len(game), len(game) + 1]
    chain = [_leaking_place(place, ends, rate) for place in told] + [(0, "draw", [(ONE, end)]) for end in ends]
    return chain_numbers(chain, [None] * len(game) + [ONE, ZERO], ZERO)[:len(game)]


def _leaking_place(place, ends, rate):
    """Return the place of a chain with a branch more, by which the play comes to the end of its mark's side."""
    mark, kind, branches = place
    leak = leak_of(mark, rate=rate)
    rest = rest_to_one(leak)
    return (mark, kind, [(product_of(rest, chance), x) for chance, x in branches] + [(leak, ends[mark % 2])])


def _better_choices(game, side, choices, numbers):
    """Return a dict with the best branch of each place of the side that has a better one than the told one."""
    moves = {}
    for place in places_of(game, side):
        ahead = targets(game, place)
        branch = _best_branch(game, place, numbers)
        if numbers[ahead[branch]] != numbers[ahead[choices[place]]]:
            moves[place] = branch
    return moves


def _best_branch(game, place, numbers):
    """Return the first branch of the place of a side to a target with the best number for the side."""
    ahead = [numbers[target] for target in targets(game, place)]
    return ahead.index(greatest_of(ahead) if game[place][1] == "ours" else least_of(ahead))


def are_leaking(game, numbers, *, rate):
    """Return True if the numbers are the leaking values of the game with the rate."""
    if len(numbers) != len(game):
        return False
    # No other numbers fulfil the equations of point 50.
    return all([numbers[place] == _number_at(game, place, numbers, rate) for place in range(len(game))])


def _number_at(game, place, numbers, rate):
    """Return what the number of the place must be if those of its targets are right."""
    mark, kind, branches = game[place]
    if kind == "draw":
        ahead = mean_of(branches, numbers)
    else:
        ahead = numbers[targets(game, place)[_best_branch(game, place, numbers)]]
    leak = leak_of(mark, rate=rate)
    won = leak if mark % 2 == 0 else ZERO
    return sum_of([won, product_of(rest_to_one(leak), ahead)])


def leaking_strategies(game, *, rate):
    """Return the leaking strategies, a tuple of one of ours and one of theirs."""
    numbers = leaking_values(game, rate=rate)
    return _choices_of(game, "ours", numbers), _choices_of(game, "theirs", numbers)


def _choices_of(game, side, numbers):
    return [_best_branch(game, place, numbers) if game[place][1] == side else None for place in range(len(game))]


def distance_of(game, *, rate):
    """Return the distance of the rate."""
    pairs = list(zip(leaking_values(game, rate=rate), values(game)))
    return greatest_of([greatest_of([difference_of(one, other), difference_of(other, one)]) for one, other in pairs])
