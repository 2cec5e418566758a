"""Chains: closed classes and what happens in the long run (points 14 to 20)."""

from oddcrown.equations import chain_numbers, class_shares
from oddcrown.games import MANY_MARKS, reached
from oddcrown.ratios import ONE, ZERO, inverse_of, product_of, sum_of


def closed_classes(chain):
    """Return the list of the closed classes, in the order of their first places."""
    ahead = [reached(chain, place) for place in range(len(chain))]
    # A place of a closed class is the first one of it if no lesser place is reached.
    return [ahead[place] for place in range(len(chain))
            if ahead[place][0] == place and all([ahead[other] == ahead[place] for other in ahead[place]])]


def winning_chances(chain):
    """Return the winning chances of the chain."""
    return _chances(chain, [places for places in closed_classes(chain) if _greatest_mark(chain, places) % 2 == 0])


def _greatest_mark(chain, places):
    return max([chain[place][0] for place in places])


def _chances(chain, chosen):
    """Return for each place the chance with which a play comes into one of the chosen closed classes."""
    return _from_classes(chain, [ONE if places in chosen else ZERO for places in closed_classes(chain)])


def _from_classes(chain, numbers):
    """Return for each place the mean of the numbers of the closed classes into which a play comes."""
    known = [None] * len(chain)
    for places, number in zip(closed_classes(chain), numbers):
        for place in places:
            known[place] = number
    return chain_numbers(chain, known, ZERO)


def are_winning(chain, numbers):
    """Return True if the numbers are the winning chances of the chain."""
    return numbers == winning_chances(chain)


def mark_chances(chain, place):
    """Return the ten mark chances of the place."""
    return [_mark_chance(chain, place, mark) for mark in range(MANY_MARKS)]


def _mark_chance(chain, place, mark):
    chosen = [places for places in closed_classes(chain) if _greatest_mark(chain, places) == mark]
    return _chances(chain, chosen)[place] if chosen else ZERO


def long_shares(chain, place):
    """Return the long shares of the place, a number for each place of the chain."""
    shares = [ZERO] * len(chain)
    for places in closed_classes(chain):
        chance = _chances(chain, [places])[place]
        for at, share in zip(places, class_shares(chain, places)):
            shares[at] = product_of(chance, share)
    return shares


def returning(chain, place):
    """Return the mean number of steps until the play comes back to the place, None outside of closed classes."""
    for places in closed_classes(chain):
        if place in places:
            return inverse_of(class_shares(chain, places)[places.index(place)])
    return None


def steps_to_rest(chain):
    """Return the steps to rest of each place."""
    known = [None] * len(chain)
    for places in closed_classes(chain):
        for place in places:
            known[place] = ZERO
    return chain_numbers(chain, known, ONE)


def long_gains(chain):
    """Return the long gain of each place."""
    return _from_classes(chain, [_class_gain(chain, places) for places in closed_classes(chain)])


def _class_gain(chain, places):
    shares = class_shares(chain, places)
    return sum_of([product_of(share, (chain[place][0], 1)) for place, share in zip(places, shares)])
