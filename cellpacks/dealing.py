"""Dealings of cells into groups, and which of them is the best.

A dealing is one list of cells, group behind group; holds tells for each cell, by its number, what it holds.
"""


def group_totals(cells, size, holds):
    totals = []
    for first in range(0, len(cells), size):
        totals.append(sum([holds[i] for i in cells[first:first + size]]))
    return totals


def strength_of(totals):
    return min(totals)


def spread_of(totals):
    return max(totals) - min(totals)


# Each set of groups is dealt in one order alone: cells rise within a group, and groups by their first cells.
def may_follow(dealt, size, cell):
    if cell in dealt:
        return False
    if len(dealt) == 0:
        return True
    if len(dealt) % size == 0:
        return cell > dealt[len(dealt) - size]
    return cell > dealt[len(dealt) - 1]


# Each step keeps the order of the one before it, and loose rises: so the dealings come out first ones first.
def all_dealings(loose, groups, size):
    dealings = [[]]
    for place in range(groups * size):
        longer = []
        for dealt in dealings:
            longer.extend([dealt + [cell] for cell in loose if may_follow(dealt, size, cell)])
        dealings = longer
    return dealings


def best_dealing(loose, groups, size, holds):
    best = None
    best_worth = None
    for cells in all_dealings(loose, groups, size):
        totals = group_totals(cells, size, holds)
        worth = (strength_of(totals), -spread_of(totals))
        # Only a better one takes the place: of like ones the first stays.
        if best is None or worth > best_worth:
            best = cells
            best_worth = worth
    return best
