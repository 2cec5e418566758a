"""Equations between the numbers at the places of a chain, solved exactly."""

from math import lcm

from oddcrown.ratios import ONE, ZERO, mean_of, product_of, ratio, sum_of


def chain_numbers(chain, known, gain):
    """Return the numbers of the places of the chain: those that are known, and at each other
    place the gain and the mean of the numbers at its targets together.

    `known` is a list with a number or None for each place. From each place without a number
    the chain leads to one with a number, or else no numbers or several ones would be right.
    """
    # Short rows go first: they leave the other rows as short as they were.
    unknown = sorted([place for place in range(len(chain)) if known[place] is None],
                     key=lambda place: len(chain[place][2]))
    column = {place: at for at, place in enumerate(unknown)}
    settled = [ZERO if number is None else number for number in known]
    rows = []
    for place in unknown:
        branches = chain[place][2]
        row = _differences([(chance, column[x]) for chance, x in branches if x in column], column[place], len(column))
        rows.append(row + [sum_of([gain, mean_of(branches, settled)])])
    found = dict(zip(unknown, _solved(rows)))
    return [found[place] if place in found else known[place] for place in range(len(chain))]


def class_shares(chain, places):
    """Return the shares of the places of a closed class (point 17)."""
    first, *others = places
    column = {place: at for at, place in enumerate(others)}
    # What leads to a place from each other one; the first place is left out, and its share is 1 for now.
    arriving = [[] for _ in others]
    starting = [ZERO] * len(others)
    for place in places:
        for chance, target in chain[place][2]:
            if target != first and place == first:
                starting[column[target]] = sum_of([starting[column[target]], chance])
            elif target != first:
                arriving[column[target]].append((chance, column[place]))
    rows = [_differences(arriving[at], at, len(others)) + [starting[at]] for at in range(len(others))]
    parts = [ONE] + _solved(rows)
    whole = sum_of(parts)
    return [product_of(part, ratio(whole[1], whole[0])) for part in parts]


def _differences(terms, at, many):
    """Return what the unknowns are multiplied by if the one at this column less the terms is told.

    Terms are tuples of a number and the column of the unknown that it is multiplied by.
    """
    row = [ZERO] * many
    row[at] = ONE
    for (n, d), column in terms:
        row[column] = sum_of([row[column], (-n, d)])
    return row


def _solved(rows):
    """Return the numbers that solve the equations.

    A row has, for each unknown, the number that it is multiplied by, and last what their sum
    is. The first unknowns alone, however many of them, must be settled by the first rows,
    which holds for what leads away from places of a chain.
    """
    done = []
    left = [_in_whole_numbers(row) for row in rows]
    before = 1
    while left:
        base, *others = left
        done.append(base)
        # By dividing each row by the pivot before, the entries stay determinants of the first
        # rows, and so whole numbers that are not longer than they must be.
        left = [_without_first(row, base, before) for row in others]
        before = base[0]
    # The last pivot is the determinant: each unknown times it is a whole number.
    found = []
    for row in reversed(done):
        told = sum([factor * worth for factor, worth in zip(row[1:-1], found)])
        found = [(row[-1] * before - told) // row[0]] + found
    return [ratio(worth, before) for worth in found]


def _in_whole_numbers(row):
    common = 1
    for number in row:
        common = lcm(common, number[1])
    return [n * (common // d) for n, d in row]


def _without_first(row, base, before):
    """Return the row, without its first unknown, behind the step that takes it away by the base."""
    pivot, factor = base[0], row[0]
    if factor == 0 and pivot == before:
        return row[1:]
    return [(here * pivot - factor * there) // before for here, there in zip(row[1:], base[1:])]
