"""Point 3: better and exchange; and what holds of exchanges."""

import itertools
import unittest

from tests.lines import (
    MOST, behind, better, build, cell, cells, exchange, lacks, last, look, loose, match, pack, resists, retest, retire,
    scrap, start, state, strength, weak,
)

# Cell 0 is in pack 0, cell 1 is scrap, cell 2 is loose, cell 3 is in pack 1.
ONE_OF_EACH = [
    start(), cell(9, 2), build(1, 1), cell(8, 3), scrap(1), cell(6, 5), cell(7, 4), build(1, 1),
]
# Pack 0 has the groups (0, 3) and (1, 2), which hold 11 and 10; 4 and 5 are loose.
TWO_GROUPS = [start(), *cells(1, 2, 8, 10), build(2, 2), *cells(5, 9)]


def pack_of(before, p):
    answer = last(*before, pack(p))
    return answer[1], answer[2:]


def strengths_one_by_one(before, p):
    """How strong the pack is behind each exchange: by its cells, group by group, then by the loose ones."""
    found = []
    for own, other in itertools.product(pack_of(before, p)[1], last(*before, loose())[1:]):
        found.append((last(*before, exchange(own, other), strength(p))[0], own, other))
    return found


class Better(unittest.TestCase):
    def test_how_strong_then_its_cell_then_the_loose_one(self):
        self.assertEqual(behind(TWO_GROUPS, strength(0), better(0)), [[10, 1], [11, 1, 4]])
        self.assertEqual(last(start(), *cells(3, 9), build(2, 1), cell(7), better(0)), [7, 0, 2])
        self.assertEqual(last(start(), *cells(9, 3), build(2, 1), cell(7), better(0)), [7, 1, 2])

    def test_the_best_is_told_and_not_the_first_that_is_stronger(self):
        self.assertEqual(last(start(), *cells(3, 9), build(2, 1), *cells(4, 8, 6), better(0)), [8, 0, 3])
        self.assertEqual(last(start(), *cells(2, 1), build(1, 2), *cells(3, 5, 4), better(0)), [7, 1, 3])

    def test_one_group(self):
        self.assertEqual(last(start(), *cells(4, 3, 5), build(1, 3), cell(6), better(0)), [15, 1, 3])
        self.assertEqual(last(start(), cell(4), build(1, 1), *cells(5, 10000), better(0)), [10000, 0, 2])

    def test_one_weak_group_among_others(self):
        line = [start(), *cells(9, 1, 4, 4), build(2, 2)]
        self.assertEqual(behind(line, pack(0), cell(7), better(0)), [[2, 2, 0, 1, 2, 3], [4], [10, 2, 4]])

    def test_of_like_ones_the_first_loose_one(self):
        self.assertEqual(last(start(), *cells(3, 9), build(2, 1), *cells(8, 8), better(0)), [8, 0, 2])
        self.assertEqual(last(start(), *cells(3, 5), build(2, 1), *cells(7, 6, 8), better(0)), [5, 0, 2])

    def test_of_like_ones_the_first_of_its_cells(self):
        self.assertEqual(last(start(), *cells(1, 1), build(1, 2), cell(5), better(0)), [6, 0, 2])

    def test_its_cells_go_ahead_of_the_loose_ones(self):
        line = [start(), *cells(1, 3), build(1, 2), *cells(2, 4)]
        self.assertEqual(last(*line, better(0)), [7, 0, 3])
        line = [start(), *cells(6, 6), build(1, 2), *cells(7, 7)]
        self.assertEqual(last(*line, better(0)), [13, 0, 2])

    def test_its_cells_go_by_their_places_and_not_by_their_numbers(self):
        line = [start(), *cells(1, 1), build(1, 2), cell(1), exchange(0, 2), cell(5)]
        self.assertEqual(behind(line, pack(0), better(0)), [[1, 2, 2, 1], [6, 2, 3]])

    def test_the_spread_does_not_count(self):
        line = [start(), *cells(3, 5), build(2, 1), *cells(9, 5)]
        self.assertEqual(last(*line, better(0)), [5, 0, 2])
        self.assertEqual(last(start(), *cells(9, 5), build(2, 1), cell(5), better(0)), [-33])

    def test_an_exchange_into_the_same_strength_is_no_better_one(self):
        self.assertEqual(last(start(), *cells(5, 5), build(1, 1), better(0)), [-33])
        self.assertEqual(last(start(), *cells(5, 9), build(2, 1), *cells(5, 4), better(0)), [-33])
        self.assertEqual(last(start(), *cells(5, 9), build(2, 1), *cells(5, 4, 6), better(0)), [6, 0, 4])

    def test_two_groups_that_are_weakest(self):
        self.assertEqual(last(start(), *cells(5, 5), build(2, 1), cell(10000), better(0)), [-33])
        self.assertEqual(last(start(), *cells(*[5] * 8), build(4, 2), cell(10000), better(0)), [-33])

    def test_no_loose_one(self):
        self.assertEqual(last(start(), *cells(1, 9), build(2, 1), better(0)), [-33])

    def test_scrap_and_packed_ones_are_not_loose(self):
        line = [start(), cell(1), build(1, 1), *cells(9, 8), scrap(1), build(1, 1)]
        self.assertEqual(behind(line, better(0), better(1), cell(2), better(0)), [[-33], [-33], [3], [2, 0, 3]])

    def test_no_such_pack(self):
        self.assertEqual(last(start(), *cells(5, 6), better(0)), [-2])
        for p in (1, 24, MOST):
            with self.subTest(p=p):
                self.assertEqual(last(start(), cell(5), build(1, 1), cell(6), better(p)), [-2])
        self.assertEqual(last(start(), cell(5), build(1, 1), cell(6), retire(0), better(0)), [-2])

    def test_each_pack_by_its_number(self):
        line = [start(), cell(5), build(1, 1), cell(7), build(1, 1), cell(6)]
        self.assertEqual(behind(line, better(0), better(1)), [[6, 0, 2], [-33]])

    def test_a_retested_cell(self):
        line = [start(), *cells(5, 4), build(1, 1), better(0), retest(1, 6), better(0), retest(1, 5), better(0)]
        self.assertEqual(behind(line[:4], *line[4:]), [[-33], [4], [6, 0, 1], [6], [-33]])

    def test_it_changes_nothing(self):
        asked = [pack(0), strength(0), loose(), state()]
        given = behind(TWO_GROUPS, *asked, better(0), *asked, better(0))
        self.assertEqual(given[:4], given[5:9])
        self.assertEqual(given[4], given[9])

    def test_nothing_is_better_just_behind_a_build(self):
        for holds in itertools.product((1, 2, 4), repeat=5):
            for groups, size in ((1, 1), (2, 1), (1, 2), (2, 2), (3, 1), (1, 4)):
                self.assertEqual(last(start(), *cells(*holds), build(groups, size), better(0)), [-33])


class Exchange(unittest.TestCase):
    def test_the_pack_is_answered(self):
        self.assertEqual(last(*ONE_OF_EACH, exchange(0, 2)), [0])
        self.assertEqual(last(*ONE_OF_EACH, exchange(3, 2)), [1])

    def test_each_is_where_the_other_one_was(self):
        places = {0: [4, 3, 1, 2], 3: [0, 4, 1, 2], 1: [0, 3, 4, 2], 2: [0, 3, 1, 4]}
        for own, row in places.items():
            with self.subTest(own=own):
                given = behind(TWO_GROUPS, exchange(own, 4), pack(0), loose())
                self.assertEqual(given, [[0], [2, 2] + row, [2] + sorted([own, 5])])

    def test_all_calls_behind_it(self):
        line = TWO_GROUPS + [exchange(3, 5)]
        asked = [pack(0), strength(0), weak(0), lacks(0), look(3), look(5), look(0), loose(), state()]
        self.assertEqual(
            behind(line, *asked),
            [[2, 2, 0, 5, 1, 2], [10, 0], [0, 10], [2, 0, 0], [10, 1, 0, 0], [9, 1, 1, 0], [1, 1, 1, 0], [2, 3, 4]]
            + [[6, 2, 1, 0]],
        )

    def test_a_pack_may_be_weaker_behind_it(self):
        line = TWO_GROUPS + [exchange(2, 4)]
        self.assertEqual(behind(line, strength(0), weak(0), lacks(0)), [[7, 4], [1, 7], [2, 0, 4]])

    def test_what_the_pack_resists_behind_it(self):
        self.assertEqual(behind(ONE_OF_EACH, resists(0), exchange(0, 2), resists(0)), [[0, 2, 1], [0], [0, 5, 1]])

    def test_two_packs(self):
        line = ONE_OF_EACH + [exchange(3, 2)]
        self.assertEqual(
            behind(line, pack(0), pack(1), look(2), look(3), exchange(0, 3), look(3), look(0), loose()),
            [[1, 1, 0], [1, 1, 2], [6, 5, 2, 0], [7, 4, 0, 0], [0], [7, 4, 1, 0], [9, 2, 0, 0], [1, 0]],
        )

    def test_and_back_again(self):
        asked = [pack(0), strength(0), loose(), state()] + [look(i) for i in range(6)]
        given = behind(TWO_GROUPS, *asked, exchange(0, 5), exchange(5, 0), *asked)
        self.assertEqual(given[:10], given[12:])

    def test_the_one_that_is_out_is_loose_and_the_one_that_is_in_is_not(self):
        line = ONE_OF_EACH + [exchange(0, 2)]
        asked = [retest(2, 5, 5), scrap(2), exchange(0, 2), retest(0, 4, 4), match(1, 1), exchange(2, 0), scrap(2)]
        self.assertEqual(behind(line, *asked), [[-16], [-16], [-6], [9], [4, 0, 0], [0], [6]])

    def test_the_one_that_is_better(self):
        answer = last(*TWO_GROUPS, better(0))
        given = behind(TWO_GROUPS, exchange(answer[1], answer[2]), strength(0), pack(0))
        self.assertEqual(given, [[0], [11, 2], [2, 2, 0, 3, 4, 2]])

    def test_no_such_cell(self):
        for i, j in itertools.product((0, 1, 2, 3, 4, 24, MOST), repeat=2):
            if i > 3 or j > 3:
                with self.subTest(i=i, j=j):
                    self.assertEqual(last(*ONE_OF_EACH, exchange(i, j)), [-2])

    def test_in_no_pack_goes_ahead_of_not_loose(self):
        for i, j in itertools.product((1, 2), (0, 1, 2, 3)):
            with self.subTest(i=i, j=j):
                self.assertEqual(last(*ONE_OF_EACH, exchange(i, j)), [-6])

    def test_not_loose(self):
        for i, j in itertools.product((0, 3), (0, 1, 3)):
            with self.subTest(i=i, j=j):
                self.assertEqual(last(*ONE_OF_EACH, exchange(i, j)), [-16])

    def test_a_cell_of_the_same_pack_is_not_loose(self):
        self.assertEqual(behind(TWO_GROUPS, exchange(0, 3), exchange(0, 1), pack(0))[:2], [[-16], [-16]])

    def test_a_refused_one_changes_nothing(self):
        asked = [pack(0), pack(1), loose(), state()] + [look(i) for i in range(4)]
        refused = [exchange(0, 4), exchange(4, 2), exchange(2, 0), exchange(1, 2), exchange(0, 1), exchange(0, 3)]
        given = behind(ONE_OF_EACH, *asked, *refused, *asked)
        self.assertEqual(given[8:14], [[-2], [-2], [-6], [-6], [-16], [-16]])
        self.assertEqual(given[:8], given[14:])

    def test_behind_a_retire_the_cell_is_in_no_pack(self):
        self.assertEqual(behind(ONE_OF_EACH, retire(0), exchange(0, 2), exchange(3, 0)), [[1], [-6], [1]])


class WhatHolds(unittest.TestCase):
    def hold_against_all(self, before, p):
        strong = last(*before, strength(p))[0]
        one_by_one = strengths_one_by_one(before, p)
        stronger = [tried for tried in one_by_one if tried[0] > strong]
        answer = last(*before, better(p))
        if stronger:
            most = max(tried[0] for tried in stronger)
            first = [tried for tried in stronger if tried[0] == most][0]
            self.assertEqual(answer, list(first), before)
        else:
            self.assertEqual(answer, [-33], before)
        return bool(stronger)

    def test_no_exchange_is_stronger_than_the_one_that_is_told(self):
        found = 0
        for groups, size in ((1, 1), (2, 1), (1, 2), (3, 1), (2, 2), (1, 4), (4, 2), (2, 4)):
            for seed in range(1, 16):
                taken = groups * size
                holds = [(seed * (k + 2) * (k + 5) + 7 * k) % (seed + 8) + 1 for k in range(taken + 5)]
                before = [start(), *cells(*holds[:taken]), build(groups, size), *cells(*holds[taken:])]
                found += self.hold_against_all(before, 0)
                # The places no longer rise by their numbers.
                first = last(*before, pack(0))[2]
                found += self.hold_against_all(before + [exchange(first, taken + 1)], 0)
        self.assertGreater(found, 100)
        self.assertLess(found, 220)

    def test_exchanged_for_the_best_until_there_is_none(self):
        line = [start(), *cells(1, 2, 3, 4, 5, 6), build(3, 2), *cells(9, 8, 7, 3, 6, 9)]
        strong = last(*line, strength(0))[0]
        while last(*line, better(0)) != [-33]:
            told = last(*line, better(0))
            line.append(exchange(told[1], told[2]))
            self.assertEqual(last(*line, strength(0))[0], told[0])
            self.assertGreater(told[0], strong)
            strong = told[0]
        self.hold_against_all(line, 0)


if __name__ == "__main__":
    unittest.main()
