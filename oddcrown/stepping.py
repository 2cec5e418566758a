"""One step ahead: what a place is worth if its targets are, in whole numbers of one common part.

Whole numbers need no lowest terms behind each step, and are compared as they stand.
"""

from math import lcm


def common_of(game):
    """Return the least common multiple of what the chances of the game are divided by."""
    common = 1
    for _, kind, branches in game:
        if kind == "draw":
            for chance, _ in branches:
                common = lcm(common, chance[1])
    return common


def weighed(game, common):
    """Return the game with each chance told as the whole number that it is times the common multiple."""
    return [(mark, kind, [(n * (common // d), x) for (n, d), x in branches] if kind == "draw" else branches)
            for mark, kind, branches in game]


def step_ahead(game, common, worths):
    """Return what each place of the weighed game is worth ahead of a step, times the common multiple.

    `worths` tells for each place what it is worth behind the step.
    """
    return [_ahead_at(kind, branches, common, worths) for _, kind, branches in game]


def _ahead_at(kind, branches, common, worths):
    if kind == "draw":
        return sum([weight * worths[x] for weight, x in branches])
    if kind == "ours":
        return common * max([worths[x] for x in branches])
    return common * min([worths[x] for x in branches])
