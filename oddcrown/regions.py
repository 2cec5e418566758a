"""Parts of a game from which a side wins with the chance 1.

Lists of places are told by their bits. A part of a game is closed if each draw in it has all
its targets in it, and each place of a side some target.
"""

from oddcrown.bits import bits_of, branch_into, places_in
from oddcrown.companies import PARITY_OF

OTHER_SIDE = {"ours": "theirs", "theirs": "ours"}


def attracted(game, ways, inside, *, side, goal):
    """Return the places of a part from which the side can go to the goal, within it, with some
    chance whatever the other side does, and a dict with a branch for each such place of the side
    that is not of the goal.

    A branch leads to a place from which the goal is nearer.
    """
    found = goal
    branches = {}
    grown = True
    while grown:
        grown = False
        for place in places_in(inside & ~found):
            kind = game[place][1]
            if kind == OTHER_SIDE[side]:
                comes = ways[place] & inside & ~found == 0
            else:
                comes = ways[place] & found != 0
            if comes and kind == side:
                branches[place] = branch_into(game, place, found)
            if comes:
                found |= 1 << place
                grown = True
    return found, branches


def won_part(game, ways, inside, side):
    """Return places of a closed part from which the side wins almost surely within it, and a dict
    with a branch for each place of the side among them, by which it does and stays there.

    If there are none, return no places, and branches of the other side by which this one wins
    almost surely from all places of the part.
    """
    if inside == 0:
        return 0, {}
    leader, top = _leader_of(game, inside)
    follower = OTHER_SIDE[leader]
    near, nearing = attracted(game, ways, inside, side=leader, goal=top)
    won, branches = won_part(game, ways, inside & ~near, follower)
    if won == 0:
        # Far from the top the leader wins, and near to it comes to it again and again.
        branches.update(nearing)
        branches.update(_branches_within(game, inside, top, leader))
        return (inside if side == leader else 0), branches
    if side == follower:
        return won, branches
    lost, losing = attracted(game, ways, inside, side=follower, goal=won)
    kept, keeping = won_part(game, ways, inside & ~lost, leader)
    if kept != 0:
        return kept, keeping
    # Wherever a play is, the follower wins there, or draws it near to where it wins.
    branches.update(losing)
    branches.update(keeping)
    return 0, branches


def _leader_of(game, inside):
    """Return the side that the greatest mark favours, and the places with marks above all those for the other side."""
    places = places_in(inside)
    greatest = max([game[place][0] for place in places])
    leader = "ours" if greatest % 2 == PARITY_OF["ours"] else "theirs"
    against = [game[place][0] for place in places if game[place][0] % 2 != greatest % 2]
    limit = max(against, default=-1)
    return leader, bits_of([place for place in places if game[place][0] > limit])


def _branches_within(game, inside, among, side):
    """Return a dict with the first branch that stays inside for each place of the side among these."""
    return {place: branch_into(game, place, inside) for place in places_in(among) if game[place][1] == side}
