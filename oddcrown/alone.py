"""Games of one side alone, with chance: its greatest chances and a strategy for them."""

from oddcrown.bits import bits_of, has_place, ways_of
from oddcrown.companies import company_mark, return_to, won_companies
from oddcrown.equations import chain_numbers
from oddcrown.games import places_of, targets, with_strategy
from oddcrown.ratios import ONE, ZERO, is_less
from oddcrown.regions import attracted


def greatest_chances(game, side):
    """Return the greatest chances with which the side wins, a number for each place, and a
    strategy of the side with which they come about. The other side has no places in the game.
    """
    strategy, won = _winning_returns(game, side)
    every = bits_of(list(range(len(game))))
    hopeful, nearing = attracted(game, ways_of(game), every, side=side, goal=won)
    for place, number in nearing.items():
        strategy[place] = number
    known = [_known_chance(place, won, hopeful) for place in range(len(game))]
    while True:
        numbers = chain_numbers(with_strategy(game, side, strategy), known, ZERO)
        moves = better_moves(game, places_of(game, side), numbers)
        if not moves:
            return numbers, strategy
        for place, number in moves.items():
            strategy[place] = number


def _known_chance(place, won, hopeful):
    if has_place(won, place):
        return ONE
    return None if has_place(hopeful, place) else ZERO


def _winning_returns(game, side):
    """Return a strategy by which the side keeps companies that it wins, and the bits of all of these."""
    strategy = [0 if place[1] == side else None for place in game]
    won = 0
    # A later company that meets an earlier one lies within it: a play that comes there stays there.
    for company in won_companies(game, list(range(len(game))), side=side):
        won |= bits_of(company)
        for place, number in enumerate(_going_round(game, company)):
            if number is not None:
                strategy[place] = number
    return strategy, won


def _going_round(game, company):
    """Return the return to a place with the mark of the company."""
    mark = company_mark(game, company)
    top = [place for place in company if game[place][0] == mark]
    return return_to(game, company, top[0])


def better_moves(game, places, numbers):
    """Return a dict with a branch for each of the places that has a target with a number greater than its own.

    The branch is the first one to a target with the greatest number.
    """
    moves = {}
    for place in places:
        best = numbers[place]
        for number, target in enumerate(targets(game, place)):
            if is_less(best, numbers[target]):
                best = numbers[target]
                moves[place] = number
    return moves
