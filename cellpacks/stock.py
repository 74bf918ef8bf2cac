"""The cells and packs that one line of calls works on."""


class Cell:
    def __init__(self, holds, resists):
        self.holds = holds
        self.resists = resists
        self.pack = None
        self.scrap = False


# The cells stand in one row, group behind group, so that a place in a pack is one index.
class Pack:
    def __init__(self, size, cells):
        self.size = size
        self.cells = cells


class Stock:
    def __init__(self, bounds):
        self.bounds = bounds
        self.cells = []
        self.packs = {}


def is_loose(cell):
    return cell.pack is None and not cell.scrap


def loose_cells(stock):
    return [i for i, cell in enumerate(stock.cells) if is_loose(cell)]


def held(stock):
    return [cell.holds for cell in stock.cells]


def grade_of(stock, cell):
    return len([bound for bound in stock.bounds if cell.holds >= bound])


def free_number(stock):
    number = 0
    while number in stock.packs:
        number += 1
    return number


def add_pack(stock, size, cells):
    number = free_number(stock)
    stock.packs[number] = Pack(size, cells)
    for i in cells:
        cell = stock.cells[i]
        cell.pack = number
    return number


# The pack's order stays as it was: only the one place changes hands.
def exchange_cells(stock, i, j):
    packed = stock.cells[i]
    loose = stock.cells[j]
    number = packed.pack
    pack = stock.packs[number]
    pack.cells[pack.cells.index(i)] = j
    packed.pack = None
    loose.pack = number
    return number


def remove_pack(stock, number):
    pack = stock.packs.pop(number)
    for i in pack.cells:
        cell = stock.cells[i]
        cell.pack = None
    return len(pack.cells)
