"""Stages of a watch: a game of now, and the deeds that change it (points 63 and 64)."""

from oddcrown.crowns import values
from oddcrown.errors import BadMark, BadSize, BadTarget, LastBranch, NoBranch, NotHere, NotSo
from oddcrown.games import MANY_MARKS, check_draw
from oddcrown.ratios import is_position


class Stage:
    """A game with all branches, and the branches that are struck out. It is never changed: deeds make new ones."""

    def __init__(self, whole, out):
        """`out` is an ascending list of tuples of a place and the number of a branch."""
        self.whole = whole
        self.out = out
        self._worths = None

    def present(self):
        """Return the present game."""
        return [self._present_place(at) for at in range(len(self.whole))]

    def _present_place(self, at):
        mark, kind, branches = self.whole[at]
        return (mark, kind, [branch for number, branch in enumerate(branches) if (at, number) not in self.out])

    def worths(self):
        """Return the list of the values of the present game."""
        # Going back and forth comes to the same stages again.
        if self._worths is None:
            self._worths = values(self.present())
        return list(self._worths)

    def left_at(self, place):
        """Return how many branches of the place are not struck out."""
        return len(self._present_place(place)[2])


def changed(stage, word, place, told):
    """Return the stage behind the deed of this word at the place, or raise the first error that is due."""
    check_place(stage, place)
    action = DEEDS[word]
    return action(stage, place, told)


def check_place(stage, place):
    """Raise BadTarget if the value is not a place of the game."""
    if not is_position(place, len(stage.whole)):
        raise BadTarget()


def _with_mark(stage, place, mark):
    if not is_position(mark, MANY_MARKS):
        raise BadMark()
    _, kind, branches = stage.whole[place]
    return _with_place(stage, place, (mark, kind, branches))


def _with_place(stage, place, told):
    whole = list(stage.whole)
    whole[place] = told
    return Stage(whole, stage.out)


def _without_branch(stage, place, branch):
    _check_branch(stage, place, branch)
    if (place, branch) in stage.out:
        raise NotSo()
    if stage.left_at(place) == 1:
        raise LastBranch()
    return Stage(stage.whole, sorted(stage.out + [(place, branch)]))


def _with_branch(stage, place, branch):
    _check_branch(stage, place, branch)
    if (place, branch) not in stage.out:
        raise NotSo()
    return Stage(stage.whole, [other for other in stage.out if other != (place, branch)])


def _check_branch(stage, place, branch):
    _, kind, branches = stage.whole[place]
    if kind == "draw":
        raise NotHere()
    if not is_position(branch, len(branches)):
        raise NoBranch()


def _with_chances(stage, place, chances):
    mark, kind, branches = stage.whole[place]
    if kind != "draw":
        raise NotHere()
    if len(chances) != len(branches):
        raise BadSize()
    turned = [(chance, target) for chance, (_, target) in zip(chances, branches)]
    check_draw(turned, len(stage.whole))
    return _with_place(stage, place, (mark, kind, turned))


DEEDS = {"mark": _with_mark, "strike": _without_branch, "put": _with_branch, "turn": _with_chances}
