"""Point 3: resists; and that side by side resists less."""

import fractions
import math
import unittest

from tests.lines import (
    MOST, behind, build, cell, exchange, last, pack, resists, retest, retire, start,
)


def line_of(all_resist):
    """Cells that hold alike: they are dealt in the order of their numbers."""
    return [start(), *[cell(5, resisted) for resisted in all_resist]]


def resists_of(all_resist, groups, size):
    return last(*line_of(all_resist), build(groups, size), resists(0))


def by_hand(all_resist, size):
    whole = fractions.Fraction(0)
    for k in range(0, len(all_resist), size):
        whole += 1 / sum(fractions.Fraction(1, resisted) for resisted in all_resist[k:k + size])
    return [0, whole.numerator, whole.denominator]


class Resists(unittest.TestCase):
    def test_one_cell(self):
        for resisted in (1, 2, 7, 99, 100):
            self.assertEqual(resists_of([resisted], 1, 1), [0, resisted, 1])

    def test_groups_of_one(self):
        self.assertEqual(resists_of([2, 3, 6], 3, 1), [0, 11, 1])
        self.assertEqual(resists_of([100] * 4, 4, 1), [0, 400, 1])

    def test_one_group(self):
        self.assertEqual(resists_of([2, 3], 1, 2), [0, 6, 5])
        self.assertEqual(resists_of([1, 1], 1, 2), [0, 1, 2])
        self.assertEqual(resists_of([2, 3, 7], 1, 3), [0, 42, 41])
        self.assertEqual(resists_of([1, 2, 3, 4], 1, 4), [0, 12, 25])

    def test_lowest_terms(self):
        self.assertEqual(resists_of([2, 3, 6], 1, 3), [0, 1, 1])
        self.assertEqual(resists_of([10, 15], 1, 2), [0, 6, 1])
        self.assertEqual(resists_of([4, 4], 1, 2), [0, 2, 1])
        self.assertEqual(resists_of([6, 10], 1, 2), [0, 15, 4])
        self.assertEqual(resists_of([100] * 4, 1, 4), [0, 25, 1])

    def test_several_groups(self):
        self.assertEqual(resists_of([2, 3, 4, 5], 2, 2), [0, 154, 45])
        self.assertEqual(resists_of([1] * 8, 4, 2), [0, 2, 1])
        self.assertEqual(resists_of([1] * 8, 2, 4), [0, 1, 2])
        self.assertEqual(resists_of([1, 2, 1, 5], 2, 2), [0, 3, 2])

    def test_numbers_above_2_to_the_32nd(self):
        for all_resist in ([97, 89, 83, 79, 73, 71, 67, 61], [100, 99, 97, 91, 89, 83, 79, 73]):
            answer = resists_of(all_resist, 2, 4)
            self.assertEqual(answer, by_hand(all_resist, 4))
            self.assertGreater(min(answer[1:]), 2 ** 32)
            self.assertIs(type(answer[1]), int)
        self.assertEqual(resists_of([97, 89, 83, 79, 73, 71, 67, 61], 2, 4), [0, 186876841045, 4848810096])

    def test_against_fractions(self):
        taken = [(groups, size) for groups in range(1, 5) for size in range(1, 5) if groups * size <= 8]
        for groups, size in taken:
            for seed in range(1, 30):
                all_resist = [(seed * seed * (k + 1) + 31 * k * k + seed) % 100 + 1 for k in range(groups * size)]
                answer = resists_of(all_resist, groups, size)
                self.assertEqual(answer, by_hand(all_resist, size), all_resist)
                self.assertEqual(math.gcd(answer[1], answer[2]), 1)
                self.assertGreater(answer[2], 0)

    def test_all_pairs_of_small_numbers(self):
        for one in range(1, 13):
            for other in range(1, 13):
                self.assertEqual(resists_of([one, other], 1, 2), by_hand([one, other], 2))

    def test_the_groups_are_those_of_the_pack(self):
        line = [start(), cell(1, 2), cell(9, 3), cell(2, 5), cell(8, 7), build(2, 2)]
        self.assertEqual(behind(line, pack(0), resists(0)), [[2, 2, 0, 1, 2, 3], by_hand([2, 3, 5, 7], 2)])
        line = [start(), cell(1, 2), cell(2, 3), cell(8, 5), cell(9, 7), build(2, 2)]
        self.assertEqual(behind(line, pack(0), resists(0)), [[2, 2, 0, 3, 1, 2], by_hand([2, 7, 3, 5], 2)])

    def test_a_retested_cell(self):
        line = line_of([2, 3]) + [retest(0, 5, 6), build(1, 2), retest(1, 5, 9)]
        self.assertEqual(behind(line, resists(0)), [[0, 2, 1]])

    def test_behind_an_exchange(self):
        line = line_of([2, 3]) + [build(1, 2), cell(1, 6), exchange(0, 2)]
        self.assertEqual(behind(line, resists(0), exchange(1, 0), resists(0)), [[0, 2, 1], [0], [0, 3, 2]])

    def test_each_pack_by_its_number(self):
        line = line_of([2, 3]) + [build(1, 1), build(1, 1)]
        self.assertEqual(behind(line, resists(0), resists(1), resists(0)), [[0, 2, 1], [0, 3, 1], [0, 2, 1]])

    def test_no_such_pack(self):
        self.assertEqual(last(*line_of([5]), resists(0)), [-2])
        for p in (1, 24, MOST):
            with self.subTest(p=p):
                self.assertEqual(last(*line_of([5]), build(1, 1), resists(p)), [-2])
        self.assertEqual(last(*line_of([5]), build(1, 1), retire(0), resists(0)), [-2])


class SideBySide(unittest.TestCase):
    def test_it_resists_less_than_each_of_the_cells(self):
        for all_resist in ([1, 100], [1, 1], [50, 50, 50], [3, 100, 100, 100], [1, 2, 3, 4]):
            answer = resists_of(all_resist, 1, len(all_resist))
            self.assertLess(fractions.Fraction(answer[1], answer[2]), min(all_resist))
            self.assertGreater(answer[1], 0)

    def test_it_resists_less_than_behind_one_another(self):
        for all_resist in ([1, 100], [1, 1], [7, 8, 9], [3, 100, 100, 100]):
            beside = resists_of(all_resist, 1, len(all_resist))
            behind_another = resists_of(all_resist, len(all_resist), 1)
            self.assertLess(fractions.Fraction(*beside[1:]), fractions.Fraction(*behind_another[1:]))
            self.assertEqual(behind_another, [0, sum(all_resist), 1])

    def test_one_more_beside_the_others_makes_it_less(self):
        told = [fractions.Fraction(*resists_of([9, 4, 100, 1][:many], 1, many)[1:]) for many in range(1, 5)]
        self.assertEqual(told, sorted(told, reverse=True))
        self.assertEqual(len(set(told)), 4)


if __name__ == "__main__":
    unittest.main()
