"""Point 3: pack, strength, weak and lacks; and what holds of packs that are built."""

import unittest

from tests.lines import (
    MOST, behind, build, cell, cells, exchange, grades, lacks, last, pack, retest, retire, run, scrap, start, strength,
    weak,
)


class Pack(unittest.TestCase):
    def test_groups_then_cells_of_each_then_its_cells(self):
        line = [start(), *cells(1, 2, 9, 10, 5, 6), build(2, 3), pack(0)]
        self.assertEqual(run(*line)[-2:], [[0], [2, 3, 0, 2, 5, 1, 3, 4]])

    def test_one_group_and_groups_of_one(self):
        self.assertEqual(last(start(), *cells(4, 5, 6), build(1, 3), pack(0)), [1, 3, 0, 1, 2])
        self.assertEqual(last(start(), *cells(4, 5, 6), build(3, 1), pack(0)), [3, 1, 0, 1, 2])

    def test_no_such_pack(self):
        for p in (0, 1, MOST):
            with self.subTest(p=p):
                self.assertEqual(last(start(), cell(5), pack(p)), [-2])
        for p in (1, 24, MOST):
            with self.subTest(p=p):
                self.assertEqual(last(start(), cell(5), build(1, 1), pack(p)), [-2])

    def test_each_pack_by_its_number(self):
        line = [start(), *cells(4, 6, 5), build(1, 1), build(1, 2), pack(0), pack(1), pack(0)]
        self.assertEqual(run(*line)[6:], [[1, 1, 1], [1, 2, 0, 2], [1, 1, 1]])

    def test_later_calls_leave_it_as_it_is(self):
        line = [start(), *cells(4, 6, 5), build(2, 1), retest(0, 9), cell(8), scrap(0), pack(0), strength(0)]
        self.assertEqual(run(*line)[-2:], [[2, 1, 1, 2], [5, 1]])


class Strength(unittest.TestCase):
    def test_the_weakest_group_then_the_spread(self):
        self.assertEqual(last(start(), *cells(1, 2, 9, 11), build(2, 2), strength(0)), [11, 1])
        self.assertEqual(last(start(), *cells(10000, 1), build(2, 1), strength(0)), [1, 9999])

    def test_the_strongest_pack_there_may_be(self):
        self.assertEqual(last(start(), *cells(*[10000] * 8), build(2, 4), strength(0)), [40000, 0])

    def test_one_group_has_no_spread(self):
        self.assertEqual(last(start(), *cells(4, 5, 6), build(1, 3), strength(0)), [15, 0])

    def test_no_such_pack(self):
        for p in (0, 1, MOST):
            with self.subTest(p=p):
                self.assertEqual(last(start(), cell(5), strength(p)), [-2])
        for p in (1, 24, MOST):
            with self.subTest(p=p):
                self.assertEqual(last(start(), cell(5), build(1, 1), strength(p)), [-2])

    def test_each_pack_by_its_number(self):
        line = [start(), *cells(4, 6, 5), build(1, 1), build(2, 1), strength(0), strength(1)]
        self.assertEqual(run(*line)[6:], [[6, 0], [4, 1]])


class Weak(unittest.TestCase):
    def test_the_weakest_group_then_what_it_holds(self):
        for holds, answer in (((4, 7, 9), [0, 4]), ((7, 4, 9), [1, 4]), ((9, 7, 4), [2, 4]), ((1, 10000), [0, 1])):
            with self.subTest(holds=holds):
                self.assertEqual(last(start(), *cells(*holds), build(len(holds), 1), weak(0)), answer)

    def test_groups_of_several(self):
        line = [start(), *cells(1, 2, 9, 11), build(2, 2)]
        self.assertEqual(behind(line, pack(0), weak(0)), [[2, 2, 0, 3, 1, 2], [1, 11]])

    def test_of_several_the_first(self):
        self.assertEqual(last(start(), *cells(7, 4, 9, 4), build(4, 1), weak(0)), [1, 4])
        self.assertEqual(last(start(), *cells(*[5] * 8), build(4, 2), weak(0)), [0, 10])
        self.assertEqual(last(start(), *cells(6, 5, 5), build(3, 1), weak(0)), [1, 5])

    def test_one_group(self):
        self.assertEqual(last(start(), *cells(4, 5, 6), build(1, 3), weak(0)), [0, 15])
        self.assertEqual(last(start(), cell(10000), build(1, 1), weak(0)), [0, 10000])

    def test_the_strongest_there_may_be(self):
        self.assertEqual(last(start(), *cells(*[10000] * 8), build(2, 4), weak(0)), [0, 40000])

    def test_no_such_pack(self):
        for p in (1, 24, MOST):
            with self.subTest(p=p):
                self.assertEqual(last(start(), cell(5), weak(0)), [-2])
                self.assertEqual(last(start(), cell(5), build(1, 1), weak(p)), [-2])

    def test_each_pack_by_its_number(self):
        line = [start(), *cells(4, 6, 5), build(1, 1), build(2, 1)]
        given = behind(line, weak(0), weak(1), retire(0), weak(0), weak(1))
        self.assertEqual(given, [[0, 6], [0, 4], [1], [-2], [0, 4]])

    def test_a_retested_cell(self):
        line = [start(), *cells(4, 6, 5), retest(0, 9), build(2, 1)]
        self.assertEqual(behind(line, pack(0), weak(0)), [[2, 1, 0, 1], [1, 6]])


class Lacks(unittest.TestCase):
    def test_of_each_group_how_much_less_it_holds_than_the_strongest(self):
        tried = (
            ((4, 7, 9), [3, 5, 2, 0]), ((7, 4, 9, 4), [4, 2, 5, 0, 5]), ((9, 4), [2, 0, 5]), ((1, 10000), [2, 9999, 0]),
        )
        for holds, answer in tried:
            with self.subTest(holds=holds):
                self.assertEqual(last(start(), *cells(*holds), build(len(holds), 1), lacks(0)), answer)

    def test_groups_of_several(self):
        self.assertEqual(last(start(), *cells(1, 2, 9, 11), build(2, 2), lacks(0)), [2, 0, 1])

    def test_cells_that_hold_alike(self):
        self.assertEqual(last(start(), *cells(*[5] * 8), build(4, 2), lacks(0)), [4, 0, 0, 0, 0])

    def test_one_group_lacks_nothing(self):
        self.assertEqual(last(start(), *cells(4, 5, 6), build(1, 3), lacks(0)), [1, 0])
        self.assertEqual(last(start(), cell(7), build(1, 1), lacks(0)), [1, 0])

    def test_no_such_pack(self):
        for p in (1, 24, MOST):
            with self.subTest(p=p):
                self.assertEqual(last(start(), cell(5), lacks(0)), [-2])
                self.assertEqual(last(start(), cell(5), build(1, 1), lacks(p)), [-2])

    def test_each_pack_by_its_number(self):
        line = [start(), *cells(4, 6, 5), build(1, 1), build(2, 1)]
        given = behind(line, lacks(0), lacks(1), retire(0), lacks(0), lacks(1))
        self.assertEqual(given, [[1, 0], [2, 1, 0], [1], [-2], [2, 1, 0]])

    def test_behind_an_exchange(self):
        line = [start(), *cells(4, 6, 5), build(2, 1), exchange(1, 0)]
        self.assertEqual(behind(line, pack(0), lacks(0), weak(0)), [[2, 1, 0, 2], [2, 1, 0], [0, 4]])


class WhatHolds(unittest.TestCase):
    def setUp(self):
        self.holds = [(k * k * 13 + 7 * k) % 29 + 1 for k in range(24)]
        line = [start()]
        for at in (0, 8, 16):
            line += cells(*self.holds[at:at + 8]) + [build(2, 2), build(3, 1), build(1, 1)]
        self.given = run(*line, *[pack(p) for p in range(9)], *[strength(p) for p in range(9)], pack(9), grades())

    def test_each_cell_is_in_one_pack_at_most_and_there_in_one_place(self):
        placed = []
        for answer in self.given[-20:-11]:
            self.assertEqual(len(answer) - 2, answer[0] * answer[1])
            placed += answer[2:]
        self.assertEqual(sorted(placed), list(range(24)))
        self.assertEqual(self.given[-2:], [[-2], [1, 0]])

    def test_no_group_holds_less_than_told_and_some_holds_just_that(self):
        for packed, told in zip(self.given[-20:-11], self.given[-11:-2]):
            size = packed[1]
            row = packed[2:]
            totals = [sum(self.holds[i] for i in row[k:k + size]) for k in range(0, len(row), size)]
            self.assertEqual(told, [min(totals), max(totals) - min(totals)])


if __name__ == "__main__":
    unittest.main()
