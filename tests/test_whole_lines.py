"""Whole lines of mixed calls: held against a plain retelling of the document, and against what holds throughout."""

import fractions
import itertools
import unittest

from tests.lines import (
    MOST, better, build, cell, could, exchange, grade, grades, lacks, last, look, loose, match, near, pack, resists,
    retest, retire, run, scrap, start, state, strength, weak,
)


class Retold:
    """What the document tells, told once more: cells are [holds, resists, where], packs are rows of groups."""

    def __init__(self):
        self.bounds = None
        self.cells = []
        self.packs = {}

    def start(self, many, *bounds):
        if many > 6 or any(bound > 10000 for bound in bounds) or sorted(set(bounds)) != list(bounds):
            return [-22]
        self.__init__()
        self.bounds = bounds
        return [0]

    def loose_ones(self):
        return [i for i, told in enumerate(self.cells) if told[2] == "loose"]

    def told_well(self, holds, resisted):
        return holds in range(1, 10001) and resisted in range(1, 101)

    def cell(self, holds, resisted):
        if not self.told_well(holds, resisted):
            return [-22]
        if len(self.cells) == 24:
            return [-28]
        self.cells.append([holds, resisted, "loose"])
        return [len(self.cells) - 1]

    def test(self, i, holds, resisted):
        if i >= len(self.cells):
            return [-2]
        if self.cells[i][2] != "loose":
            return [-16]
        if not self.told_well(holds, resisted):
            return [-22]
        before = self.cells[i][0]
        self.cells[i][:2] = [holds, resisted]
        return [before]

    def scrap(self, i):
        if i >= len(self.cells):
            return [-2]
        if self.cells[i][2] != "loose":
            return [-16]
        self.cells[i][2] = "scrap"
        return [self.cells[i][0]]

    def grade(self, i):
        if i >= len(self.cells):
            return [-2]
        return [sum(self.cells[i][0] >= bound for bound in self.bounds)]

    def grades(self):
        all_grades = [self.grade(i)[0] for i in self.loose_ones()]
        return [len(self.bounds) + 1] + [all_grades.count(k) for k in range(len(self.bounds) + 1)]

    def totals(self, groups):
        return [sum(self.cells[i][0] for i in group) for group in groups]

    def dealings(self, left, groups, size, above):
        if groups == 0:
            yield ()
            return
        for group in itertools.combinations(left, size):
            if group[0] > above:
                rest = [i for i in left if i not in group]
                for others in self.dealings(rest, groups - 1, size, group[0]):
                    yield (group,) + others

    def best(self, groups, size):
        if groups not in (1, 2, 3, 4) or size not in (1, 2, 3, 4) or groups * size > 8:
            return -22
        if len(self.loose_ones()) < groups * size:
            return -12
        ranked = []
        for dealt in self.dealings(self.loose_ones(), groups, size, -1):
            totals = self.totals(dealt)
            ranked.append((-min(totals), max(totals) - min(totals), dealt))
        return min(ranked)

    def match(self, groups, size):
        best = self.best(groups, size)
        return [best] if isinstance(best, int) else [-best[0], best[1], *itertools.chain(*best[2])]

    def build(self, groups, size):
        best = self.best(groups, size)
        if isinstance(best, int):
            return [best]
        number = min(set(range(25)) - set(self.packs))
        self.packs[number] = [list(group) for group in best[2]]
        for i in itertools.chain(*best[2]):
            self.cells[i][2] = number
        return [number]

    def could(self, groups, size, asked):
        best = self.best(groups, size)
        return [best] if isinstance(best, int) else [int(-best[0] >= asked)]

    def pack(self, p):
        if p not in self.packs:
            return [-2]
        groups = self.packs[p]
        return [len(groups), len(groups[0]), *itertools.chain(*groups)]

    def strength(self, p):
        if p not in self.packs:
            return [-2]
        totals = sorted(self.totals(self.packs[p]))
        return [totals[0], totals[-1] - totals[0]]

    def weak(self, p):
        if p not in self.packs:
            return [-2]
        holds, group = min((total, k) for k, total in enumerate(self.totals(self.packs[p])))
        return [group, holds]

    def lacks(self, p):
        if p not in self.packs:
            return [-2]
        totals = self.totals(self.packs[p])
        return [len(totals)] + [max(totals) - total for total in totals]

    def better(self, p):
        if p not in self.packs:
            return [-2]
        groups = self.packs[p]
        tried = []
        for own, other in itertools.product(itertools.chain(*groups), self.loose_ones()):
            changed = [[other if i == own else i for i in group] for group in groups]
            tried.append((min(self.totals(changed)), own, other))
        stronger = [told for told in tried if told[0] > min(self.totals(groups))]
        if not stronger:
            return [-33]
        return list(max(stronger, key=lambda told: told[0]))

    def exchange(self, i, j):
        if max(i, j) >= len(self.cells):
            return [-2]
        p = self.cells[i][2]
        if p in ("loose", "scrap"):
            return [-6]
        if self.cells[j][2] != "loose":
            return [-16]
        self.packs[p] = [[j if k == i else k for k in group] for group in self.packs[p]]
        self.cells[i][2], self.cells[j][2] = "loose", p
        return [p]

    def resists(self, p):
        if p not in self.packs:
            return [-2]
        whole = sum(1 / sum(fractions.Fraction(1, self.cells[i][1]) for i in group) for group in self.packs[p])
        return [0, whole.numerator, whole.denominator]

    def near(self):
        pairs = itertools.combinations(self.loose_ones(), 2)
        apart = [(abs(self.cells[i][0] - self.cells[j][0]), i, j) for i, j in pairs]
        return list(min(apart)) if apart else [-12]

    def loose(self):
        return [len(self.loose_ones())] + self.loose_ones()

    def retire(self, p):
        if p not in self.packs:
            return [-2]
        row = list(itertools.chain(*self.packs.pop(p)))
        for i in row:
            self.cells[i][2] = "loose"
        return [len(row)]

    def look(self, i):
        if i >= len(self.cells):
            return [-2]
        holds, resisted, where = self.cells[i]
        return [holds, resisted, 0 if where in ("loose", "scrap") else where + 1, int(where == "scrap")]

    def state(self):
        scrapped = [told for told in self.cells if told[2] == "scrap"]
        return [len(self.cells), len(self.loose_ones()), len(self.packs), len(scrapped)]

    def answer(self, call):
        if call[0] != 0 and self.bounds is None:
            return [-11]
        names = """start cell test scrap grade grades match build could pack strength weak lacks better exchange resists
                   near loose retire look state""".split()
        return getattr(self, names[call[0]])(*call[1:])


class Draw:
    """Numbers that look drawn by chance, and are the same each time."""

    def __init__(self, seed):
        self.at = seed * 7919 + 17

    def below(self, many):
        self.at = (self.at * 6364136223846793005 + 1442695040888963407) % 2 ** 64
        return (self.at >> 33) % many

    def one_of(self, row):
        return row[self.below(len(row))]


def bounds_of(draw):
    if draw.below(4) == 0:
        return [draw.below(12) for k in range(draw.below(9))]
    return sorted({draw.below(12) for k in range(draw.below(7))})


def number_of(draw, many):
    """Mostly a number that may be there; at times one that isn't."""
    return draw.one_of([MOST, many, many + 1]) if draw.below(12) == 0 else draw.below(max(many, 1))


def some_call(draw, many, packs, most):
    i, j = number_of(draw, many), number_of(draw, many)
    p = number_of(draw, packs + 1)
    holds, resisted = draw.below(most) + (draw.below(8) > 0), draw.below(12) + (draw.below(8) > 0)
    groups, size = draw.below(5), draw.below(5)
    small = 1 + draw.below(2), 1 + draw.below(2)
    calls = [
        cell(holds, resisted), cell(holds, resisted), cell(holds, resisted), retest(i, holds, resisted), scrap(i),
        grade(i), grades(), match(groups, size), match(*small), build(*small), build(groups, size),
        could(groups, size, draw.below(3 * most)), pack(p), strength(p), weak(p), lacks(p), better(p), better(p),
        exchange(i, j), exchange(i, j), exchange(i, j), resists(p), near(), loose(), retire(p), look(i), state(),
    ]
    return draw.one_of(calls)


def whole_line(seed, most):
    """A line of 200 calls, and what the document tells of each."""
    draw = Draw(seed)
    retold = Retold()
    line = []
    told = []
    while len(line) < 200:
        call = some_call(draw, len(retold.cells), len(retold.packs), most)
        if draw.below(70) == 0 or (retold.bounds is None and draw.below(3) == 0):
            call = start(*bounds_of(draw))
        if call[0] in (6, 7, 8) and retold.bounds is not None and len(retold.loose_ones()) > 8:
            continue
        line.append(call)
        told.append(retold.answer(call))
    return line, told


class AgainstTheDocument(unittest.TestCase):
    def test_lines_of_all_calls(self):
        seen = {}
        for seed in range(60):
            line, told = whole_line(seed, 6 if seed % 3 else 10000)
            for call, answer, expected in zip(line, run(*line), told):
                self.assertEqual(answer, expected, (seed, call))
                seen.setdefault(call[0], set()).add(min(answer[0], 0))
        # Every call was both taken and refused with each number that it has.
        refusals = {
            0: {-22}, 1: {-22, -28}, 2: {-2, -16, -22}, 3: {-2, -16}, 4: {-2}, 5: set(), 6: {-22, -12}, 7: {-22, -12},
            8: {-22, -12}, 9: {-2}, 10: {-2}, 11: {-2}, 12: {-2}, 13: {-2, -33}, 14: {-2, -6, -16}, 15: {-2},
            16: {-12}, 17: set(), 18: {-2}, 19: {-2}, 20: set(),
        }
        for number, refused in refusals.items():
            self.assertEqual(seen[number], refused | {0} | ({-11} if number else set()), number)


class WhatHolds(unittest.TestCase):
    """Asked at many places of a line: what is told of the cells and packs fits together."""

    def held(self, line):
        """What all cells hold, and all packs, as the line's end has them."""
        many = last(*line, state())[0]
        looked = run(*line, *[look(i) for i in range(many)], *[pack(p) for p in range(25)])[len(line):]
        packs = {p: answer for p, answer in enumerate(looked[many:]) if answer != [-2]}
        return looked[:many], packs

    def groups_of(self, told):
        return [told[k:k + told[1]] for k in range(2, len(told), told[1])]

    def hold_places(self, line):
        looked, packs = self.held(line)
        placed = [i for told in packs.values() for i in told[2:]]
        self.assertEqual(len(placed), len(set(placed)), line)
        for p, told in packs.items():
            self.assertEqual(len(told), 2 + told[0] * told[1])
            self.assertEqual([looked[i][2:] for i in told[2:]], [[p + 1, 0]] * (len(told) - 2))
        for i, told in enumerate(looked):
            self.assertEqual(told[2] > 0, i in placed)
        rest = [i for i, told in enumerate(looked) if told[2:] == [0, 0]]
        scrapped = [told for told in looked if told[3] == 1]
        asked = run(*line, loose(), state())[-2:]
        self.assertEqual(asked, [[len(rest)] + rest, [len(looked), len(rest), len(packs), len(scrapped)]])

    def hold_strengths(self, line):
        looked, packs = self.held(line)
        for p, told in packs.items():
            totals = [sum(looked[i][0] for i in group) for group in self.groups_of(told)]
            strong, weakest, lacking = run(*line, strength(p), weak(p), lacks(p))[-3:]
            self.assertTrue(all(total >= strong[0] for total in totals))
            self.assertIn(strong[0], totals)
            self.assertEqual(strong[1], max(totals) - strong[0])
            self.assertEqual(weakest, [totals.index(strong[0]), strong[0]])
            self.assertEqual([total + less for total, less in zip(totals, lacking[1:])], [max(totals)] * len(totals))

    def hold_exchanges(self, line):
        looked, packs = self.held(line)
        others = last(*line, loose())[1:]
        for p, told in packs.items():
            before, best = run(*line, strength(p), better(p))[-2:]
            most = before[0] if best == [-33] else best[0]
            for own, other in itertools.product(told[2:], others):
                self.assertLessEqual(last(*line, exchange(own, other), strength(p))[0], most)
            if best != [-33]:
                self.assertGreater(best[0], before[0])
                self.assertEqual(last(*line, exchange(*best[1:]), strength(p))[0], best[0])

    def hold_dealings(self, line):
        looked, packs = self.held(line)
        others = last(*line, loose())[1:]
        if len(others) not in range(4, 7):
            return
        for groups, size in ((2, 2), (2, 1), (1, 3)):
            best = last(*line, match(groups, size))
            for row in itertools.permutations(others, groups * size):
                totals = [sum(looked[i][0] for i in row[k:k + size]) for k in range(0, len(row), size)]
                self.assertLessEqual((min(totals), min(totals) - max(totals)), (best[0], -best[1]))

    def hold_resistances(self, line):
        looked, packs = self.held(line)
        for p, told in packs.items():
            answer = last(*line, resists(p))
            least = sum(min(looked[i][1] for i in group) for group in self.groups_of(told))
            whole = fractions.Fraction(answer[1], answer[2])
            self.assertEqual([whole.numerator, whole.denominator], answer[1:])
            if told[1] == 1:
                self.assertEqual(whole, least)
            else:
                self.assertLess(whole, least)

    def ends_of(self, many_calls):
        """Beginnings of lines on which there are packs, loose cells and better exchanges."""
        for seed in (2, 6, 10, 11):
            line = whole_line(seed, 9)[0]
            for many in many_calls:
                if last(*line[:many], state()) != [-11]:
                    yield line[:many]

    def test_these_lines_have_packs_and_better_exchanges(self):
        told = [[last(*line, better(p))[0] for p in range(8)] for line in self.ends_of(range(20, 190, 17))]
        found = [answer for row in told for answer in row]
        self.assertGreater(len([answer for answer in found if answer > 0]), 20)
        self.assertGreater(found.count(-33), 10)

    def test_places_strengths_and_resistances(self):
        for line in self.ends_of(range(1, 150, 3)):
            self.hold_places(line)
            self.hold_strengths(line)
            self.hold_resistances(line)

    def test_dealings_and_exchanges(self):
        for line in self.ends_of(range(20, 190, 17)):
            self.hold_exchanges(line)
            self.hold_dealings(line)


if __name__ == "__main__":
    unittest.main()
