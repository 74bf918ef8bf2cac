"""Point 1: start, cell, test, scrap, grade, grades."""

import unittest

from tests.lines import (
    MOST, build, cell, cells, firsts, grade, grades, last, match, retest, run, scrap, start, strength,
)

PACKED_0_SCRAP_1_LOOSE_2 = [start(), cell(9, 9), build(1, 1), cell(8, 8), scrap(1), cell(7, 7)]


class Start(unittest.TestCase):
    def test_bounds_as_told(self):
        for bounds in ([], [0], [1], [10000], [1, 2], [0, 1, 2, 3, 4, 5], [5, 9, 100, 101, 9999, 10000]):
            with self.subTest(bounds=bounds):
                self.assertEqual(run(start(*bounds)), [[0]])

    def test_bounds_that_are_not_as_told(self):
        refused = (
            [1, 2, 3, 4, 5, 6, 7], list(range(60)), [10001], [MOST], [1, 10001], [5, 5], [6, 5], [1, 2, 2], [1, 3, 2],
            [2, 1, 3], [0, 0], [1, 2, 3, 4, 5, 5], [9, 8, 7, 6, 5, 4, 3],
        )
        for bounds in refused:
            with self.subTest(bounds=bounds):
                self.assertEqual(run(start(*bounds)), [[-22]])

    def test_nothing_is_there(self):
        self.assertEqual(run(start(5), grades(), grade(0), strength(0)), [[0], [2, 0, 0], [-2], [-2]])


class AddCell(unittest.TestCase):
    def test_numbers_from_0(self):
        self.assertEqual(firsts(start(), cell(5), cell(5), cell(6)), [0, 0, 1, 2])

    def test_what_it_may_hold(self):
        for holds, answer in ((0, -22), (1, 0), (10000, 0), (10001, -22), (MOST, -22)):
            with self.subTest(holds=holds):
                self.assertEqual(last(start(), cell(holds, 1)), [answer])

    def test_what_it_may_resist(self):
        for resists, answer in ((0, -22), (1, 0), (100, 0), (101, -22), (MOST, -22)):
            with self.subTest(resists=resists):
                self.assertEqual(last(start(), cell(1, resists)), [answer])

    def test_a_refused_one_is_not_there(self):
        line = [start(), cell(0, 1), cell(1, 101), grades(), grade(0), cell(1, 1)]
        self.assertEqual(run(*line), [[0], [-22], [-22], [1, 0], [-2], [0]])

    def test_it_is_loose(self):
        self.assertEqual(last(start(), cell(4), match(1, 1)), [4, 0, 0])

    def test_the_24th_and_the_25th(self):
        line = [start()] + [cell(5)] * 26 + [grade(23), grade(24), grades()]
        expected = [[0]] + [[k] for k in range(24)] + [[-28], [-28], [0], [-2], [1, 24]]
        self.assertEqual(run(*line), expected)

    def test_what_is_not_as_told_is_answered_ahead_of_too_many(self):
        line = [start()] + [cell(5)] * 24 + [cell(0, 1), cell(1, 0), cell(10001, 1), cell(1, 101), cell(1, 1)]
        self.assertEqual(firsts(*line)[25:], [-22, -22, -22, -22, -28])

    def test_scrap_and_packed_cells_count_too(self):
        line = [start()] + [cell(5)] * 8 + [build(4, 2), scrap(0)] + [cell(5)] * 8 + [scrap(k) for k in range(8, 16)]
        line += [cell(5)] * 9
        self.assertEqual(firsts(*line)[-9:], [16, 17, 18, 19, 20, 21, 22, 23, -28])


class Test(unittest.TestCase):
    def test_what_it_held_is_answered(self):
        line = [start(), cell(5, 5), retest(0, 6, 6), retest(0, 7, 7), retest(0, 7, 7), scrap(0)]
        self.assertEqual(firsts(*line), [0, 0, 5, 6, 7, 7])

    def test_another_cell_stays_as_it_is(self):
        line = [start(), *cells(5, 6, 7), retest(1, 9), match(1, 1), scrap(0), scrap(1), scrap(2)]
        self.assertEqual(run(*line)[4:], [[6], [9, 0, 1], [5], [9], [7]])

    def test_no_such_cell(self):
        for i in (1, 24, MOST):
            with self.subTest(i=i):
                self.assertEqual(last(start(), cell(5), retest(i, 5, 5)), [-2])
                self.assertEqual(last(start(), cell(5), retest(i, 0, 0)), [-2])

    def test_not_loose_is_answered_ahead_of_not_as_told(self):
        for i in (0, 1):
            for holds, resists in ((5, 5), (0, 5), (5, 0)):
                with self.subTest(i=i, holds=holds, resists=resists):
                    self.assertEqual(last(*PACKED_0_SCRAP_1_LOOSE_2, retest(i, holds, resists)), [-16])

    def test_what_it_may_hold_and_resist(self):
        tried = (
            (0, 1, -22), (1, 1, 7), (10000, 1, 7), (10001, 1, -22), (MOST, 1, -22),
            (1, 0, -22), (1, 100, 7), (1, 101, -22), (1, MOST, -22),
        )
        for holds, resists, answer in tried:
            with self.subTest(holds=holds, resists=resists):
                self.assertEqual(last(*PACKED_0_SCRAP_1_LOOSE_2, retest(2, holds, resists)), [answer])

    def test_a_refused_one_changes_nothing(self):
        line = PACKED_0_SCRAP_1_LOOSE_2 + [retest(2, 3, 101), retest(0, 3, 3), retest(1, 3, 3), strength(0), scrap(2)]
        self.assertEqual(run(*line)[6:], [[-22], [-16], [-16], [9, 0], [7]])

    def test_it_stays_loose(self):
        line = PACKED_0_SCRAP_1_LOOSE_2 + [retest(2, 3, 3), grades(), match(1, 1)]
        self.assertEqual(run(*line)[6:], [[7], [1, 1], [3, 0, 2]])


class Scrap(unittest.TestCase):
    def test_what_it_holds_is_answered(self):
        self.assertEqual(firsts(start(), *cells(5, 10000), scrap(1), scrap(0))[3:], [10000, 5])

    def test_no_such_cell(self):
        for i in (1, 24, MOST):
            with self.subTest(i=i):
                self.assertEqual(last(start(), cell(5), scrap(i)), [-2])

    def test_not_loose(self):
        line = PACKED_0_SCRAP_1_LOOSE_2 + [scrap(0), scrap(1), scrap(2), scrap(2)]
        self.assertEqual(firsts(*line)[6:], [-16, -16, 7, -16])

    def test_its_number_is_not_given_again(self):
        self.assertEqual(last(start(), *cells(5, 6), scrap(0), cell(7)), [2])


class Grade(unittest.TestCase):
    def test_a_bound_just_reached(self):
        line = [start(5, 10), *cells(1, 4, 5, 6, 9, 10, 11, 10000)] + [grade(k) for k in range(8)]
        self.assertEqual(firsts(*line)[9:], [0, 0, 1, 1, 1, 2, 2, 2])

    def test_no_bounds(self):
        self.assertEqual(firsts(start(), *cells(1, 10000), grade(0), grade(1))[3:], [0, 0])

    def test_six_bounds(self):
        line = [start(1, 2, 3, 4, 5, 6), *cells(1, 2, 3, 4, 5, 6, 7)] + [grade(k) for k in range(7)]
        self.assertEqual(firsts(*line)[8:], [1, 2, 3, 4, 5, 6, 6])

    def test_the_greatest_and_the_least_bound(self):
        self.assertEqual(firsts(start(10000), *cells(9999, 10000), grade(0), grade(1))[3:], [0, 1])
        self.assertEqual(last(start(0), cell(1), grade(0)), [1])

    def test_no_such_cell(self):
        for i in (1, 24, MOST):
            with self.subTest(i=i):
                self.assertEqual(last(start(), cell(5), grade(i)), [-2])

    def test_scrap_and_packed_cells_have_theirs(self):
        line = [start(6, 8), *cells(7, 9, 3), build(1, 1), scrap(0), grade(0), grade(1), grade(2)]
        self.assertEqual(firsts(*line)[6:], [1, 2, 0])

    def test_a_retested_cell(self):
        line = [start(5), cell(5), grade(0), retest(0, 4), grade(0), retest(0, 6), grade(0)]
        self.assertEqual(firsts(*line)[2:], [1, 5, 0, 4, 1])


class Grades(unittest.TestCase):
    def test_of_each_grade_how_many(self):
        self.assertEqual(last(start(5, 10, 15), *cells(4, 5, 9, 10, 4, 4), grades()), [4, 3, 2, 1, 0])

    def test_no_bounds(self):
        self.assertEqual(last(start(), grades()), [1, 0])
        self.assertEqual(last(start(), *cells(1, 10000), grades()), [1, 2])

    def test_six_bounds(self):
        line = [start(1, 2, 3, 4, 5, 6), *cells(1, 6, 7, 3), grades()]
        self.assertEqual(last(*line), [7, 0, 1, 0, 1, 0, 0, 2])

    def test_loose_ones_alone(self):
        line = [start(5), *cells(4, 5, 6, 7), grades(), scrap(0), grades(), build(1, 2), grades()]
        self.assertEqual(run(*line)[5:], [[2, 1, 3], [4], [2, 0, 3], [0], [2, 0, 1]])

    def test_a_retested_cell(self):
        self.assertEqual(last(start(5), *cells(4, 4), retest(1, 5), grades()), [2, 1, 1])


if __name__ == "__main__":
    unittest.main()
