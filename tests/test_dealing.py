"""Point 2: match, build, could; and what holds of the best dealing."""

import functools
import itertools
import unittest

from tests.lines import (
    MOST, build, cells, could, firsts, grades, last, match, pack, retest, run, scrap, start, strength,
)

TAKEN = [(groups, size) for groups in range(1, 5) for size in range(1, 5) if groups * size <= 8]
REFUSED = [
    (0, 1), (1, 0), (0, 0), (5, 1), (1, 5), (5, 5), (3, 3), (3, 4), (4, 3), (4, 4), (0, 4), (4, 0), (MOST, 1),
    (1, MOST), (MOST, MOST), (MOST, 0),
]


def grouped(row, size):
    return [row[k:k + size] for k in range(0, len(row), size)]


def stands_as_told(groups):
    rising = all(list(group) == sorted(group) for group in groups)
    return rising and groups == sorted(groups)


@functools.lru_cache(maxsize=None)
def dealings_of(many, groups, size):
    """All dealings of the cells 0 to many - 1: every row of cells, less those that don't stand as told."""
    rows = itertools.permutations(range(many), groups * size)
    return [row for row in rows if stands_as_told(grouped(row, size))]


def told(holds, row, size):
    """How strong a dealing is, and its spread."""
    totals = [sum(holds[k] for k in group) for group in grouped(row, size)]
    return min(totals), max(totals) - min(totals)


def best_by_hand(holds, groups, size):
    ranked = []
    for row in dealings_of(len(holds), groups, size):
        strong, spread = told(holds, row, size)
        ranked.append((-strong, spread, row))
    first = min(ranked)
    return [-first[0], first[1]] + list(first[2])


def line_of(holds):
    return [start(), *cells(*holds)]


class BestDealing(unittest.TestCase):
    def hold_against_all(self, holds):
        asked = [(groups, size) for groups, size in TAKEN if groups * size <= len(holds)]
        given = run(*line_of(holds), *[match(groups, size) for groups, size in asked])[len(holds) + 1:]
        for taken, answer in zip(asked, given):
            self.assertEqual(answer, best_by_hand(holds, *taken), (holds, taken))

    def test_how_many_dealings_there_are(self):
        counted = {(4, 2): 105, (2, 4): 35, (3, 2): 420, (2, 3): 280, (2, 2): 210, (1, 4): 70, (4, 1): 70, (1, 1): 8}
        for taken, many in counted.items():
            self.assertEqual(len(dealings_of(8, *taken)), many)

    def test_all_small_lines(self):
        for many in range(1, 6):
            for holds in itertools.product((1, 2, 4), repeat=many):
                self.hold_against_all(holds)

    def test_six_cells(self):
        for holds in itertools.product((1, 2), (1, 3), (2, 3), (1, 4), (2, 5), (1, 6)):
            self.hold_against_all(holds)

    def test_seven_and_eight_cells(self):
        for many in (7, 8):
            for seed in range(1, 40):
                self.hold_against_all([(seed * (k + 3) * (k + 3) + 5 * k) % (seed + 6) + 1 for k in range(many)])

    def test_eight_cells_that_hold_much(self):
        self.hold_against_all([10000, 9999, 1, 2, 10000, 5000, 4999, 3])
        self.hold_against_all([10000] * 8)
        self.hold_against_all([1, 10, 100, 1000, 10000, 1000, 100, 10])

    def test_none_is_better(self):
        holds = [31, 8, 15, 22, 9, 27, 4, 18]
        for groups, size in TAKEN:
            answer = last(*line_of(holds), match(groups, size))
            for row in dealings_of(8, groups, size):
                strong, spread = told(holds, row, size)
                self.assertLessEqual(strong, answer[0])
                if strong == answer[0]:
                    self.assertGreaterEqual(spread, answer[1])


class Match(unittest.TestCase):
    def test_cells_that_hold_alike(self):
        line = line_of([5] * 8)
        self.assertEqual(last(*line, match(2, 2)), [10, 0, 0, 1, 2, 3])
        self.assertEqual(last(*line, match(4, 2)), [10, 0, 0, 1, 2, 3, 4, 5, 6, 7])
        self.assertEqual(last(*line, match(1, 1)), [5, 0, 0])

    def test_groups_of_one(self):
        self.assertEqual(last(*line_of([3, 9, 8, 1, 7]), match(3, 1)), [7, 2, 1, 2, 4])
        self.assertEqual(last(*line_of([3, 9]), match(1, 1)), [9, 0, 1])

    def test_one_group(self):
        self.assertEqual(last(*line_of([3, 9, 8, 1, 7]), match(1, 3)), [24, 0, 1, 2, 4])
        self.assertEqual(last(*line_of([2, 2, 2, 1]), match(1, 4)), [7, 0, 0, 1, 2, 3])

    def test_the_strongest_together_with_the_weakest(self):
        self.assertEqual(last(*line_of([1, 2, 9, 10]), match(2, 2)), [11, 0, 0, 3, 1, 2])

    def test_of_like_strong_ones_the_least_spread(self):
        self.assertEqual(last(*line_of([9, 5, 6, 5]), match(2, 1)), [6, 3, 0, 2])
        self.assertEqual(last(*line_of([9, 5, 5, 6]), match(3, 1)), [5, 1, 1, 2, 3])

    def test_strength_goes_ahead_of_spread(self):
        self.assertEqual(last(*line_of([5, 5, 6, 100]), match(2, 1)), [6, 94, 2, 3])

    def test_of_like_ones_the_first(self):
        self.assertEqual(last(*line_of([4, 6, 4, 6]), match(2, 2)), [10, 0, 0, 1, 2, 3])
        self.assertEqual(last(*line_of([4, 4, 6, 6]), match(2, 2)), [10, 0, 0, 2, 1, 3])
        self.assertEqual(last(*line_of([7, 4, 7, 7]), match(2, 1)), [7, 0, 0, 2])

    def test_as_many_as_are_taken_more_and_one_too_few(self):
        for groups, size in TAKEN:
            taken = groups * size
            with self.subTest(groups=groups, size=size):
                self.assertEqual(last(*line_of([5] * (taken - 1)), match(groups, size)), [-12])
                for many in range(taken, 9):
                    answer = [5 * size, 0] + list(range(taken))
                    self.assertEqual(last(*line_of([5] * many), match(groups, size)), answer)

    def test_no_loose_one(self):
        self.assertEqual(last(start(), match(1, 1)), [-12])

    def test_a_retested_cell(self):
        line = line_of([5, 6, 7]) + [match(2, 1), retest(0, 9), match(2, 1), retest(2, 1), match(2, 1)]
        self.assertEqual(run(*line)[4:], [[6, 1, 1, 2], [5], [7, 2, 0, 2], [7], [6, 3, 0, 1]])

    def test_scrap_cells_are_not_loose(self):
        line = line_of([5, 9, 6, 7]) + [scrap(1), match(2, 1), match(4, 1), match(3, 1)]
        self.assertEqual(run(*line)[6:], [[6, 1, 2, 3], [-12], [5, 2, 0, 2, 3]])

    def test_packed_cells_are_not_loose(self):
        line = line_of([5, 9, 6, 7]) + [build(1, 1), match(2, 1), match(4, 1), match(3, 1)]
        self.assertEqual(run(*line)[6:], [[6, 1, 2, 3], [-12], [5, 2, 0, 2, 3]])

    def test_it_changes_nothing(self):
        line = line_of([5, 9, 6, 7]) + [match(2, 2), match(2, 2), grades(), pack(0)]
        self.assertEqual(run(*line)[5:], [[13, 1, 0, 1, 2, 3], [13, 1, 0, 1, 2, 3], [1, 4], [-2]])

    def test_cells_with_gaps_between(self):
        holds = [3, 8, 1, 9, 4, 6]
        line = [start(), *cells(50, 3, 8, 50, 1, 9, 50, 4, 6), scrap(0), scrap(3), scrap(6)]
        numbers = [1, 2, 4, 5, 7, 8]
        for groups, size in TAKEN:
            if groups * size <= 6:
                best = best_by_hand(holds, groups, size)
                expected = best[:2] + [numbers[k] for k in best[2:]]
                self.assertEqual(last(*line, match(groups, size)), expected)


class Refusals(unittest.TestCase):
    def asked(self, groups, size):
        return [match(groups, size), build(groups, size), could(groups, size, 0)]

    def test_groups_and_cells_that_are_not_as_told(self):
        for groups, size in REFUSED:
            for many in (0, 3, 8):
                for call in self.asked(groups, size):
                    with self.subTest(call=call, many=many):
                        self.assertEqual(last(*line_of([5] * many), call), [-22])

    def test_all_others_are_taken(self):
        for groups, size in TAKEN:
            for call in self.asked(groups, size):
                with self.subTest(call=call):
                    self.assertGreaterEqual(last(*line_of([5] * 8), call)[0], 0)

    def test_too_few(self):
        for groups, size in TAKEN:
            for call in self.asked(groups, size):
                with self.subTest(call=call):
                    self.assertEqual(last(*line_of([5] * (groups * size - 1)), call), [-12])

    def test_scrap_and_packed_cells_leave_too_few(self):
        line = line_of([5, 5, 5, 5]) + [scrap(3), build(1, 1)]
        for call in self.asked(3, 1):
            self.assertEqual(last(*line, call), [-12])
        for call in self.asked(2, 1):
            self.assertGreaterEqual(last(*line, call)[0], 0)

    def test_a_refused_build_changes_nothing(self):
        line = line_of([5, 6]) + [build(5, 1), build(3, 1), grades(), pack(0), build(2, 1)]
        self.assertEqual(run(*line)[3:], [[-22], [-12], [1, 2], [-2], [0]])


class Build(unittest.TestCase):
    def test_numbers_from_0(self):
        self.assertEqual(firsts(*line_of([5] * 4), *[build(1, 1)] * 5)[5:], [0, 1, 2, 3, -12])

    def test_the_best_dealing_is_the_pack(self):
        holds = [7, 3, 9, 4, 8, 5, 6, 2]
        for groups, size in TAKEN:
            best = best_by_hand(holds, groups, size)
            line = line_of(holds) + [match(groups, size), build(groups, size), pack(0), strength(0)]
            expected = [best, [0], [groups, size] + best[2:], best[:2]]
            self.assertEqual(run(*line)[9:], expected)

    def test_its_cells_are_not_loose_any_more(self):
        line = line_of([5, 9, 6, 7]) + [build(2, 1), grades(), retest(1, 5), scrap(3), match(2, 1), build(2, 1)]
        line += [pack(1)]
        self.assertEqual(run(*line)[5:], [[0], [1, 2], [-16], [-16], [5, 1, 0, 2], [1], [2, 1, 0, 2]])


class Could(unittest.TestCase):
    def test_as_strong_or_stronger(self):
        line = line_of([5, 9, 6, 7])
        for asked, answer in ((0, 1), (1, 1), (12, 1), (13, 1), (14, 0), (10000, 0), (MOST, 0)):
            with self.subTest(asked=asked):
                self.assertEqual(last(*line, could(2, 2, asked)), [answer])

    def test_on_small_lines(self):
        for holds in itertools.product((1, 2, 4), repeat=4):
            for groups, size in ((1, 1), (2, 1), (1, 2), (2, 2), (3, 1), (4, 1)):
                strong = best_by_hand(holds, groups, size)[0]
                line = line_of(holds) + [could(groups, size, n) for n in (strong - 1, strong, strong + 1)]
                self.assertEqual(firsts(*line)[5:], [1, 1, 0])

    def test_it_changes_nothing(self):
        line = line_of([5, 9]) + [could(2, 1, 5), grades(), pack(0), could(2, 1, 5)]
        self.assertEqual(run(*line)[3:], [[1], [1, 2], [-2], [1]])

    def test_a_retested_cell(self):
        line = line_of([5, 9]) + [could(2, 1, 6), retest(0, 6), could(2, 1, 6)]
        self.assertEqual(firsts(*line)[3:], [0, 5, 1])


if __name__ == "__main__":
    unittest.main()
