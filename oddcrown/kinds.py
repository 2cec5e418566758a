"""Aims: to reach places, to stay there, to come again and again, to settle (points 43 to 48)."""

from oddcrown.bits import bits_of, ways_of
from oddcrown.crowns import values
from oddcrown.games import KINDS
from oddcrown.ratios import ONE, ratio
from oddcrown.stepping import common_of, step_ahead, weighed

OPPOSITE_AIMS = {"reach": "stay", "stay": "reach", "again": "settle", "settle": "again"}
# The marks of the places of the aim, and those of all other places.
AIM_MARKS = {"reach": (2, 1), "stay": (2, 1), "again": (2, 1), "settle": (0, 1)}


def is_fulfilled(aim, beginning, circle):
    """Return True if the play through the beginning, and then round the circle for ever, fulfils the aim."""
    kind, places = aim
    at_times = [place in places for place in beginning + circle]
    in_the_end = [place in places for place in circle]
    if kind == "reach":
        return any(at_times)
    if kind == "stay":
        return all(at_times)
    return any(in_the_end) if kind == "again" else all(in_the_end)


def opposite(game, aim):
    """Return the opposite of the aim."""
    kind, places = aim
    return (OPPOSITE_AIMS[kind], [place for place in range(len(game)) if place not in places])


def with_aim(game, aim):
    """Return the game with the aim."""
    kind, places = aim
    return [_aimed(place, at, kind, at in places) for at, place in enumerate(game)]


def _aimed(place, at, kind, is_told):
    told, other = AIM_MARKS[kind]
    mark = told if is_told else other
    if kind == "reach" and is_told or kind == "stay" and not is_told:
        # What is behind this place does not matter to the aim any more.
        return (mark, "draw", [(ONE, at)])
    return (mark, place[1], list(place[2]))


def aim_values(game, aim):
    """Return the list of the values of the game with the aim."""
    return values(with_aim(game, aim))


def within_steps(game, places, steps):
    """Return for each place the chance of reaching the list within so many steps."""
    common = common_of(game)
    told = weighed(game, common)
    whole = 1
    chances = _whole_on(places, [0] * len(game), whole)
    for _ in range(steps):
        whole *= common
        chances = _whole_on(places, step_ahead(told, common, chances), whole)
    return [ratio(chance, whole) for chance in chances]


def _whole_on(places, chances, whole):
    return [whole if place in places else chance for place, chance in enumerate(chances)]


def ranks_to(game, places):
    """Return the list of the ranks for the list, None for a place without a rank."""
    return _rounds_to(game, places, ["ours"])


def ways_to(game, places):
    """Return the list of the ways to the list, None for a place without a way."""
    return _rounds_to(game, places, list(KINDS))


def _rounds_to(game, places, free):
    """Return for each place the round in which it is counted, 0 for the places of the list, None for never.

    A place of the free kinds is counted behind one target that is counted, another one behind all of its targets.
    """
    ways = ways_of(game)
    rounds = [0 if place in places else None for place in range(len(game))]
    counted = bits_of(places)
    number = 0
    while True:
        number += 1
        coming = [place for place in range(len(game)) if rounds[place] is None
                  and _is_next(ways[place], counted, game[place][1] in free)]
        if not coming:
            return rounds
        for place in coming:
            rounds[place] = number
        counted |= bits_of(coming)


def _is_next(ways, counted, is_free):
    return ways & counted != 0 if is_free else ways & ~counted == 0
