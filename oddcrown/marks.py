"""Other marks and the same values, and marks that matter (points 54 to 59)."""

from oddcrown.companies import greatest_companies
from oddcrown.crowns import values
from oddcrown.errors import BadMark
from oddcrown.games import MANY_MARKS, marks_of

# The aim of a pressed game with these marks, and the mark of the places of the aim.
PRESSED_AIMS = {(0,): ("stay", 0), (1,): ("reach", None), (0, 1): ("settle", 0), (1, 2): ("again", 2)}


def pressed(game):
    """Return the pressed game."""
    groups = {}
    marks = marks_of(game)
    group = marks[0] % 2
    for at, mark in enumerate(marks):
        if at > 0 and mark % 2 != marks[at - 1] % 2:
            group += 1
        groups[mark] = group
    return with_marks(game, [groups[place[0]] for place in game])


def raised(game, by):
    """Return the game with all marks greater by `by`."""
    marks = [place[0] + by for place in game]
    if not all([0 <= mark < MANY_MARKS for mark in marks]):
        raise BadMark()
    return with_marks(game, marks)


def with_marks(game, marks):
    """Return the game with these marks, one for each place."""
    return [(mark, kind, list(branches)) for mark, (_, kind, branches) in zip(marks, game)]


def is_better(mark, other):
    """Return True if the mark is better than the other one."""
    return _favour_of(mark) > _favour_of(other)


def _favour_of(mark):
    return mark if mark % 2 == 0 else -mark


def idle_places(game):
    """Return the ascending list of the places that lie in no company of the game."""
    every = list(range(len(game)))
    lying = [place for company in greatest_companies(game, every) for place in company]
    return [place for place in every if place not in lying]


def without_idle_marks(game):
    """Return the game with the mark 0 at all idle places."""
    idle = idle_places(game)
    return with_marks(game, [0 if at in idle else place[0] for at, place in enumerate(game)])


def values_by_mark(game, place, *, at):
    """Return for each mark from 0 to 9 the value at the place `at` if the place `place` has this mark."""
    return [values(_with_mark(game, place, mark))[at] for mark in range(MANY_MARKS)]


def _with_mark(game, place, mark):
    return with_marks(game, [mark if at == place else here[0] for at, here in enumerate(game)])


def mark_matters(game, place):
    """Return True if the mark of the place matters."""
    told = values(game)
    return any([values(_with_mark(game, place, mark)) != told for mark in range(MANY_MARKS)])


def aim_of(game):
    """Return the aim of the pressed game of the game, None if that has more than two marks."""
    told = pressed(game)
    marks = tuple(marks_of(told))
    if marks not in PRESSED_AIMS:
        return None
    kind, aimed = PRESSED_AIMS[marks]
    return (kind, [at for at, place in enumerate(told) if place[0] == aimed])
