"""Companies: what both sides together can keep for ever (points 21 to 26).

Lists of places are ascending and name no place twice.
"""

from oddcrown.bits import bits_of, branch_into, has_place, places_in, ways_of

PARITY_OF = {"ours": 0, "theirs": 1}


def can_be_kept(game, places):
    """Return True if the list can be kept."""
    return staying(game, places) == places


def rounds_out(game, places):
    """Return for each place of the game the round in which it goes out, None if it stays or is not in the list."""
    ways = ways_of(game)
    inside = bits_of(places)
    rounds = [None] * len(game)
    number = 1
    while True:
        going = [place for place in places_in(inside) if not _holds(game[place][1], ways[place], inside)]
        if not going:
            return rounds
        for place in going:
            rounds[place] = number
        inside &= ~bits_of(going)
        number += 1


def _holds(kind, ways, inside):
    if kind == "draw":
        return ways & ~inside == 0
    return ways & inside != 0


def staying(game, places):
    """Return the list of the places that stay of the list."""
    rounds = rounds_out(game, places)
    return [place for place in places if rounds[place] is None]


def is_company(game, places):
    """Return True if the list is a company."""
    return greatest_companies(game, places) == [places]


def greatest_companies(game, places):
    """Return the list of the greatest companies within the list, in the order of their least places."""
    found = []
    waiting = [places]
    while waiting:
        kept = staying(game, waiting.pop())
        parts = _knots(game, kept)
        # A kept list that is one knot is a company; of several knots some may not be kept.
        if len(parts) == 1:
            found.append(kept)
        else:
            waiting.extend(parts)
    return sorted(found)


def _knots(game, places):
    """Return the division of the list into the greatest lists with ways within it from each place to each other one."""
    ahead = _ahead_within(game, places)
    knots = []
    for place in places:
        knot = [other for other in places
                if other == place or has_place(ahead[place], other) and has_place(ahead[other], place)]
        if knot[0] == place:
            knots.append(knot)
    return knots


def _ahead_within(game, places):
    """Return for each place of the list the bits of the places to which one or more steps within it lead."""
    inside = bits_of(places)
    ways = ways_of(game)
    ahead = {place: ways[place] & inside for place in places}
    for middle in places:
        for place in places:
            if has_place(ahead[place], middle):
                ahead[place] |= ahead[middle]
    return ahead


def company_mark(game, places):
    """Return the mark of the company."""
    return max([game[place][0] for place in places])


def companies_of_mark(game, places, mark):
    """Return the greatest ones of the companies with this mark within the list, by their least places."""
    low = [place for place in places if game[place][0] <= mark]
    return [company for company in greatest_companies(game, low) if company_mark(game, company) == mark]


def marks_of_companies(game, places):
    """Return the ascending list of the marks of all companies within the list."""
    return [mark for mark in _marks_within(game, places) if companies_of_mark(game, places, mark)]


def _marks_within(game, places):
    return sorted({game[place][0] for place in places})


def won_in(game, places, *, side):
    """Return the ascending list of the places of companies within the list that the side wins."""
    won = 0
    for company in won_companies(game, places, side=side):
        won |= bits_of(company)
    return places_in(won)


def won_companies(game, places, *, side):
    """Return companies within the list that the side wins, those with greater marks first.

    Each company that the side wins is part of one of them.
    """
    found = []
    for mark in reversed(_marks_within(game, places)):
        if mark % 2 == PARITY_OF[side]:
            found.extend(companies_of_mark(game, places, mark))
    return found


def distances(game, places, place):
    """Return for each place of the game its distance to the place of the company, None outside of the company."""
    ways = ways_of(game)
    steps = [None] * len(game)
    steps[place] = 0
    reaching = bits_of([place])
    number = 0
    while True:
        number += 1
        nearer = [other for other in places if steps[other] is None and ways[other] & reaching != 0]
        if not nearer:
            return steps
        for other in nearer:
            steps[other] = number
        reaching |= bits_of(nearer)


def return_to(game, places, place):
    """Return the return to the place of the company."""
    steps = distances(game, places, place)
    telling = [None] * len(game)
    for here in places:
        if game[here][1] != "draw":
            # From the told place itself, any place of the company will do.
            goal = [other for other in places if here == place or steps[other] < steps[here]]
            telling[here] = branch_into(game, here, bits_of(goal))
    return telling
