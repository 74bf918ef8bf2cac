"""The best exchange for a pack, and the two loose cells that are nearest to one another.

holds tells for each cell, by its number, what it holds; loose cells rise.
"""

from cellpacks.dealing import group_totals, strength_of


def strength_by(cells, size, holds, place, other):
    tried = cells[:place] + [other] + cells[place + 1:]
    return strength_of(group_totals(tried, size, holds))


# None: no exchange makes the pack stronger. Else how strong it is then, its cell, the loose one.
def best_exchange(cells, size, loose, holds):
    best = None
    strongest = strength_of(group_totals(cells, size, holds))
    for place, own in enumerate(cells):
        for other in loose:
            strong = strength_by(cells, size, holds, place, other)
            # Only a stronger one takes the place: of like ones the first stays.
            if strong > strongest:
                best = [strong, own, other]
                strongest = strong
    return best


# There are at least two loose cells. How much the two differ, then these.
def nearest_two(loose, holds):
    nearest = None
    for k, one in enumerate(loose):
        for other in loose[k + 1:]:
            apart = abs(holds[one] - holds[other])
            if nearest is None or apart < nearest[0]:
                nearest = [apart, one, other]
    return nearest
