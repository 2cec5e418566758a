"""Lists of places as whole numbers: the bit x of such a number is 1 if the place x is in the list.

A list that is told so is compared, joined and cut with others in one step.
"""

from oddcrown.games import targets


def bits_of(places):
    """Return the bits of the list of places."""
    bits = 0
    for place in places:
        bits |= 1 << place
    return bits


def places_in(bits):
    """Return the ascending list of the places of these bits."""
    return [place for place in range(bits.bit_length()) if bits >> place & 1]


def has_place(bits, place):
    """Return True if the place is one of these bits."""
    return bits >> place & 1 == 1


def ways_of(game):
    """Return the list of the bits of the targets of each place of the game."""
    return [bits_of(targets(game, place)) for place in range(len(game))]


def branch_into(game, place, bits):
    """Return the number of the first branch of the place that leads into these bits, None if there is none."""
    for number, target in enumerate(targets(game, place)):
        if has_place(bits, target):
            return number
    return None
