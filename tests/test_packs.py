"""Point 3: pack and strength; and what holds of packs that are built."""

import unittest

from tests.lines import MOST, build, cell, cells, grades, last, pack, retest, run, scrap, start, strength


class Pack(unittest.TestCase):
    def test_groups_then_cells_of_each_then_its_cells(self):
        line = [start(), *cells(1, 2, 9, 10, 5, 6), build(2, 3), pack(0)]
        self.assertEqual(run(*line)[-2:], [[0], [2, 3, 0, 2, 5, 1, 3, 4]])

    def test_one_group_and_groups_of_one(self):
        self.assertEqual(last(start(), *cells(4, 5, 6), build(1, 3), pack(0)), [1, 3, 0, 1, 2])
        self.assertEqual(last(start(), *cells(4, 5, 6), build(3, 1), pack(0)), [3, 1, 0, 1, 2])

    def test_no_such_pack(self):
        for p in (0, 1, MOST):
            with self.subTest(p=p):
                self.assertEqual(last(start(), cell(5), pack(p)), [-2])
        for p in (1, 24, MOST):
            with self.subTest(p=p):
                self.assertEqual(last(start(), cell(5), build(1, 1), pack(p)), [-2])

    def test_each_pack_by_its_number(self):
        line = [start(), *cells(4, 6, 5), build(1, 1), build(1, 2), pack(0), pack(1), pack(0)]
        self.assertEqual(run(*line)[6:], [[1, 1, 1], [1, 2, 0, 2], [1, 1, 1]])

    def test_later_calls_leave_it_as_it_is(self):
        line = [start(), *cells(4, 6, 5), build(2, 1), retest(0, 9), cell(8), scrap(0), pack(0), strength(0)]
        self.assertEqual(run(*line)[-2:], [[2, 1, 1, 2], [5, 1]])


class Strength(unittest.TestCase):
    def test_the_weakest_group_then_the_spread(self):
        self.assertEqual(last(start(), *cells(1, 2, 9, 11), build(2, 2), strength(0)), [11, 1])
        self.assertEqual(last(start(), *cells(10000, 1), build(2, 1), strength(0)), [1, 9999])

    def test_the_strongest_pack_there_may_be(self):
        self.assertEqual(last(start(), *cells(*[10000] * 8), build(2, 4), strength(0)), [40000, 0])

    def test_one_group_has_no_spread(self):
        self.assertEqual(last(start(), *cells(4, 5, 6), build(1, 3), strength(0)), [15, 0])

    def test_no_such_pack(self):
        for p in (0, 1, MOST):
            with self.subTest(p=p):
                self.assertEqual(last(start(), cell(5), strength(p)), [-2])
        for p in (1, 24, MOST):
            with self.subTest(p=p):
                self.assertEqual(last(start(), cell(5), build(1, 1), strength(p)), [-2])

    def test_each_pack_by_its_number(self):
        line = [start(), *cells(4, 6, 5), build(1, 1), build(2, 1), strength(0), strength(1)]
        self.assertEqual(run(*line)[6:], [[6, 0], [4, 1]])


class WhatHolds(unittest.TestCase):
    def setUp(self):
        self.holds = [(k * k * 13 + 7 * k) % 29 + 1 for k in range(24)]
        line = [start()]
        for at in (0, 8, 16):
            line += cells(*self.holds[at:at + 8]) + [build(2, 2), build(3, 1), build(1, 1)]
        self.given = run(*line, *[pack(p) for p in range(9)], *[strength(p) for p in range(9)], pack(9), grades())

    def test_each_cell_is_in_one_pack_at_most_and_there_in_one_place(self):
        placed = []
        for answer in self.given[-20:-11]:
            self.assertEqual(len(answer) - 2, answer[0] * answer[1])
            placed += answer[2:]
        self.assertEqual(sorted(placed), list(range(24)))
        self.assertEqual(self.given[-2:], [[-2], [1, 0]])

    def test_no_group_holds_less_than_told_and_some_holds_just_that(self):
        for packed, told in zip(self.given[-20:-11], self.given[-11:-2]):
            size = packed[1]
            row = packed[2:]
            totals = [sum(self.holds[i] for i in row[k:k + size]) for k in range(0, len(row), size)]
            self.assertEqual(told, [min(totals), max(totals) - min(totals)])


if __name__ == "__main__":
    unittest.main()
