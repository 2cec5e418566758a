"""The greatest mark of the first steps (points 60 to 62)."""

from oddcrown.games import MANY_MARKS, marks_of, targets
from oddcrown.ratios import ratio
from oddcrown.stepping import common_of, step_ahead, weighed


def first_marks(chain, place, *, steps):
    """Return the first marks of so many steps from the place."""
    common = common_of(chain)
    told = weighed(chain, common)
    chances = []
    below = 0
    for mark in range(MANY_MARKS):
        up_to = _staying_low(told, common, mark, steps)[place]
        chances.append(up_to - below)
        below = up_to
    whole = _whole_of(common, steps)
    return [ratio(chance, whole) for chance in chances]


def _whole_of(common, steps):
    """Return what stands for 1 behind so many steps of whole numbers."""
    whole = 1
    for _ in range(steps):
        whole *= common
    return whole


def _staying_low(chain, common, mark, steps):
    """Return for each place the chance that no first place has a mark above this one, as a whole number."""
    chances = [0 if here[0] > mark else 1 for here in chain]
    for _ in range(steps):
        ahead = step_ahead(chain, common, chances)
        chances = [0 if here[0] > mark else chance for here, chance in zip(chain, ahead)]
    return chances


def values_of_steps(game, *, steps):
    """Return the values of so many steps."""
    common = common_of(game)
    worths = _worths_ahead(game, common, marks_of(game), steps)
    whole = _whole_of(common, steps)
    return [ratio(worths[here[0]][place], whole) for place, here in enumerate(game)]


def _worths_ahead(game, common, marks, steps):
    """Return a dict with a list for each of the marks: what each place is worth ahead of so many
    steps if this is the greatest mark so far, as whole numbers.

    All marks of the game are among the marks. What is told of a place with a greater mark than
    the greatest one so far stands for no play.
    """
    told = weighed(game, common)
    worths = {mark: [1 - mark % 2] * len(game) for mark in marks}
    for _ in range(steps):
        worths = {mark: step_ahead(told, common, _behind_a_step(game, worths, mark)) for mark in marks}
    return worths


def _behind_a_step(game, worths, greatest):
    """Return what each place is worth if the play comes there with this greatest mark so far."""
    return [worths[max(greatest, here[0])][place] for place, here in enumerate(game)]


def good_moves(game, place, *, greatest, steps):
    """Return the good moves at the place ahead of so many steps, with this greatest mark so far."""
    kind = game[place][1]
    if kind == "draw":
        return []
    marks = marks_of(game)
    if greatest not in marks:
        marks.append(greatest)
    worths = _worths_ahead(game, common_of(game), marks, steps - 1)
    behind = _behind_a_step(game, worths, greatest)
    ahead = [behind[target] for target in targets(game, place)]
    best = max(ahead) if kind == "ours" else min(ahead)
    return [branch for branch, worth in enumerate(ahead) if worth == best]
