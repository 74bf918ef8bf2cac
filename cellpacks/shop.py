"""Answers lines of calls: cells are tested and graded, and packs are built from the loose ones."""

from cellpacks.choosing import best_exchange, nearest_two
from cellpacks.dealing import best_dealing, group_totals, spread_of, strength_of
from cellpacks.resisting import behind_one_another
from cellpacks.stock import (
    Cell, Stock, add_pack, exchange_cells, grade_of, held, is_loose, loose_cells, remove_pack,
)

MOST_BOUNDS = 6
MOST_CELLS = 24
MOST_HELD = 10000
MOST_RESISTED = 100
MOST_GROUPS = 4
MOST_IN_GROUP = 4
MOST_DEALT = 8

NO_SUCH = -2
NOT_PACKED = -6
NOT_STARTED = -11
TOO_FEW = -12
NOT_LOOSE = -16
NOT_AS_TOLD = -22
FULL = -28
NO_BETTER = -33

START = 0

# How many whole numbers each call is handed; start's own row tells how long it is.
HANDED = {
    1: 2, 2: 3, 3: 1, 4: 1, 5: 0, 6: 2, 7: 2, 8: 3, 9: 1, 10: 1,
    11: 1, 12: 1, 13: 1, 14: 2, 15: 1, 16: 0, 17: 0, 18: 1, 19: 1, 20: 0,
}


def bounds_as_told(bounds):
    if len(bounds) > MOST_BOUNDS:
        return False
    for k, bound in enumerate(bounds):
        if bound > MOST_HELD:
            return False
        if k > 0 and bound <= bounds[k - 1]:
            return False
    return True


def cell_as_told(holds, resists):
    return 1 <= holds <= MOST_HELD and 1 <= resists <= MOST_RESISTED


def groups_as_told(groups, size):
    return 1 <= groups <= MOST_GROUPS and 1 <= size <= MOST_IN_GROUP and groups * size <= MOST_DEALT


def has_cell(stock, i):
    return i < len(stock.cells)


# test and scrap ask the same of their cell first; 0: nothing is refused.
def loose_refusal(stock, i):
    if not has_cell(stock, i):
        return NO_SUCH
    if not is_loose(stock.cells[i]):
        return NOT_LOOSE
    return 0


# match, build and could are refused alike; 0: nothing is refused.
def dealing_refusal(stock, groups, size):
    if not groups_as_told(groups, size):
        return NOT_AS_TOLD
    if len(loose_cells(stock)) < groups * size:
        return TOO_FEW
    return 0


def totals_of(stock, p):
    pack = stock.packs[p]
    return group_totals(pack.cells, pack.size, held(stock))


def best_of_loose(stock, groups, size):
    return best_dealing(loose_cells(stock), groups, size, held(stock))


def add_cell(stock, holds, resists):
    if not cell_as_told(holds, resists):
        return [NOT_AS_TOLD]
    if len(stock.cells) >= MOST_CELLS:
        return [FULL]
    stock.cells.append(Cell(holds, resists))
    return [len(stock.cells) - 1]


def retest_cell(stock, i, holds, resists):
    refusal = loose_refusal(stock, i)
    if refusal != 0:
        return [refusal]
    if not cell_as_told(holds, resists):
        return [NOT_AS_TOLD]
    cell = stock.cells[i]
    before = cell.holds
    cell.holds = holds
    cell.resists = resists
    return [before]


def scrap_cell(stock, i):
    refusal = loose_refusal(stock, i)
    if refusal != 0:
        return [refusal]
    cell = stock.cells[i]
    cell.scrap = True
    return [cell.holds]


def grade_cell(stock, i):
    if not has_cell(stock, i):
        return [NO_SUCH]
    return [grade_of(stock, stock.cells[i])]


def count_grades(stock):
    counts = [0 for grade in range(len(stock.bounds) + 1)]
    for i in loose_cells(stock):
        counts[grade_of(stock, stock.cells[i])] += 1
    return [len(counts)] + counts


def match_cells(stock, groups, size):
    refusal = dealing_refusal(stock, groups, size)
    if refusal != 0:
        return [refusal]
    cells = best_of_loose(stock, groups, size)
    totals = group_totals(cells, size, held(stock))
    return [strength_of(totals), spread_of(totals)] + cells


def build_pack(stock, groups, size):
    refusal = dealing_refusal(stock, groups, size)
    if refusal != 0:
        return [refusal]
    return [add_pack(stock, size, best_of_loose(stock, groups, size))]


def could_build(stock, groups, size, asked):
    refusal = dealing_refusal(stock, groups, size)
    if refusal != 0:
        return [refusal]
    totals = group_totals(best_of_loose(stock, groups, size), size, held(stock))
    return [1 if strength_of(totals) >= asked else 0]


def tell_pack(stock, p):
    if p not in stock.packs:
        return [NO_SUCH]
    pack = stock.packs[p]
    return [len(pack.cells) // pack.size, pack.size] + pack.cells


def tell_strength(stock, p):
    if p not in stock.packs:
        return [NO_SUCH]
    totals = totals_of(stock, p)
    return [strength_of(totals), spread_of(totals)]


def tell_weak(stock, p):
    if p not in stock.packs:
        return [NO_SUCH]
    totals = totals_of(stock, p)
    weakest = min(totals)
    # index gives the first of several.
    return [totals.index(weakest), weakest]


def tell_lacks(stock, p):
    if p not in stock.packs:
        return [NO_SUCH]
    totals = totals_of(stock, p)
    strongest = max(totals)
    return [len(totals)] + [strongest - total for total in totals]


def tell_better(stock, p):
    if p not in stock.packs:
        return [NO_SUCH]
    pack = stock.packs[p]
    best = best_exchange(pack.cells, pack.size, loose_cells(stock), held(stock))
    return [NO_BETTER] if best is None else best


def exchange(stock, i, j):
    if not has_cell(stock, i) or not has_cell(stock, j):
        return [NO_SUCH]
    if stock.cells[i].pack is None:
        return [NOT_PACKED]
    if not is_loose(stock.cells[j]):
        return [NOT_LOOSE]
    return [exchange_cells(stock, i, j)]


def tell_resists(stock, p):
    if p not in stock.packs:
        return [NO_SUCH]
    pack = stock.packs[p]
    whole = behind_one_another([stock.cells[i].resists for i in pack.cells], pack.size)
    return [0, whole[0], whole[1]]


def tell_near(stock):
    loose = loose_cells(stock)
    if len(loose) < 2:
        return [TOO_FEW]
    return nearest_two(loose, held(stock))


def tell_loose(stock):
    loose = loose_cells(stock)
    return [len(loose)] + loose


def retire_pack(stock, p):
    if p not in stock.packs:
        return [NO_SUCH]
    return [remove_pack(stock, p)]


def look_at_cell(stock, i):
    if not has_cell(stock, i):
        return [NO_SUCH]
    cell = stock.cells[i]
    pack_and_one = 0 if cell.pack is None else cell.pack + 1
    return [cell.holds, cell.resists, pack_and_one, 1 if cell.scrap else 0]


def tell_state(stock):
    scrapped = [cell for cell in stock.cells if cell.scrap]
    return [len(stock.cells), len(loose_cells(stock)), len(stock.packs), len(scrapped)]


ACTIONS = {
    1: add_cell,
    2: retest_cell,
    3: scrap_cell,
    4: grade_cell,
    5: count_grades,
    6: match_cells,
    7: build_pack,
    8: could_build,
    9: tell_pack,
    10: tell_strength,
    11: tell_weak,
    12: tell_lacks,
    13: tell_better,
    14: exchange,
    15: tell_resists,
    16: tell_near,
    17: tell_loose,
    18: retire_pack,
    19: look_at_cell,
    20: tell_state,
}


def split_calls(calls):
    found = []
    at = 0
    while at < len(calls):
        number = calls[at]
        at += 1
        if number == START:
            many = calls[at]
            at += 1
        else:
            many = HANDED[number]
        found.append((number, calls[at:at + many]))
        at += many
    return found


def answer_call(stock, number, handed):
    action = ACTIONS[number]
    if len(handed) == 0:
        return action(stock)
    if len(handed) == 1:
        return action(stock, handed[0])
    if len(handed) == 2:
        return action(stock, handed[0], handed[1])
    return action(stock, handed[0], handed[1], handed[2])


def answers(calls):
    given = []
    stock = None
    for number, handed in split_calls(calls):
        if number == START and bounds_as_told(handed):
            stock = Stock(handed)
            answer = [0]
        elif number == START:
            answer = [NOT_AS_TOLD]
        elif stock is None:
            answer = [NOT_STARTED]
        else:
            answer = answer_call(stock, number, handed)
        given.append(len(answer))
        given.extend(answer)
    return given
