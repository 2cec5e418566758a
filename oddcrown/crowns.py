"""The value of each place, best strategies and value classes (points 32 to 34)."""

from math import lcm

from oddcrown.against import greatest_against, is_lower, is_upper, least_against
from oddcrown.alone import better_moves
from oddcrown.bits import bits_of, places_in, ways_of
from oddcrown.errors import BadSize, BadStrategy
from oddcrown.games import check_strategy, places_of, targets
from oddcrown.ratios import ONE
from oddcrown.regions import attracted, won_part


def values(game):
    """Return the list of the values of the places."""
    return answer_of(game)[0]


def answer_of(game):
    """Return a right answer for the game: the values, and a best strategy of each side."""
    ours = [0 if place[1] == "ours" else None for place in game]
    theirs = [0 if place[1] == "theirs" else None for place in game]
    while True:
        # Each round makes some least chance of the strategy of ours greater, and none less.
        numbers = least_against(game, ours)[0]
        moves = better_moves(game, places_of(game, "ours"), numbers)
        if not moves:
            moves, keeping = _moves_in_classes(game, numbers)
        if not moves:
            break
        for place, number in moves.items():
            ours[place] = number
    for place, number in keeping.items():
        theirs[place] = number
    return numbers, ours, theirs


def _moves_in_classes(game, numbers):
    """Return branches of ours by which we win almost surely, within places of one number below 1,
    from some of these, and branches of theirs by which they win almost surely within all other
    such places of one number.

    The numbers are least chances that no single branch of ours makes greater.
    """
    ways = ways_of(game)
    moves = {}
    keeping = {}
    for number, places in _by_number(numbers):
        if number != ONE:
            inside = bits_of(places)
            # An edge leads to lesser numbers, too: we do not win by it, but they keep us from more.
            near, nearing = attracted(game, ways, inside, side="theirs", goal=_edges(game, ways, inside))
            won, branches = won_part(game, ways, inside & ~near, "ours")
            if won != 0:
                moves.update(branches)
            else:
                keeping.update(nearing)
                keeping.update(branches)
    return moves, keeping


def _by_number(numbers):
    """Return the list of tuples of a number and the places that have it, ascending by the numbers."""
    common = 1
    for number in numbers:
        common = lcm(common, number[1])
    found = {}
    for place, number in enumerate(numbers):
        found.setdefault(number, []).append(place)
    return [(number, found[number]) for number in sorted(found, key=lambda one: one[0] * (common // one[1]))]


def _edges(game, ways, inside):
    """Return the bits of the draws inside that have some target outside."""
    return bits_of([place for place in places_in(inside) if game[place][1] == "draw" and ways[place] & ~inside != 0])


def check_answer(game, answer):
    """Return True if the answer is right."""
    numbers, ours, theirs = answer
    if not _is_strategy(game, "ours", ours) or not _is_strategy(game, "theirs", theirs):
        return False
    return is_lower(game, numbers, ours=ours) and is_upper(game, numbers, theirs=theirs)


def _is_strategy(game, side, strategy):
    try:
        check_strategy(game, side, strategy)
    except (BadSize, BadStrategy):
        return False
    return True


def is_best(game, strategy, *, side):
    """Return True if the strategy of the side is best."""
    if side == "ours":
        return least_against(game, strategy)[0] == values(game)
    return greatest_against(game, strategy)[0] == values(game)


def value_classes(game):
    """Return the list of the value classes, tuples of a value and its places, ascending by their values."""
    return _by_number(values(game))


def edges_of_classes(game):
    """Return the ascending list of the draws that are edges of their classes."""
    numbers = values(game)
    return [place for place in places_of(game, "draw")
            if any([numbers[target] != numbers[place] for target in targets(game, place)])]
