"""Point 4: near, loose, retire, look and state."""

import itertools
import unittest

from tests.lines import (
    MOST, behind, better, build, cell, cells, exchange, grade, grades, lacks, last, look, loose, match, near, pack,
    resists, retest, retire, run, scrap, start, state, strength, weak,
)


def near_of(*holds):
    return last(start(), *cells(*holds), near())


class Near(unittest.TestCase):
    def test_how_much_they_differ_then_these(self):
        self.assertEqual(near_of(10, 4, 9, 1), [1, 0, 2])
        self.assertEqual(near_of(1, 50, 20, 53), [3, 1, 3])
        self.assertEqual(near_of(100, 1, 50, 51), [1, 2, 3])

    def test_the_lesser_number_first_whichever_holds_more(self):
        self.assertEqual(near_of(1, 10000), [9999, 0, 1])
        self.assertEqual(near_of(10000, 1), [9999, 0, 1])

    def test_cells_that_hold_alike(self):
        self.assertEqual(near_of(5, 5), [0, 0, 1])
        self.assertEqual(near_of(5, 5, 5), [0, 0, 1])
        self.assertEqual(near_of(5, 7, 6, 7, 6, 7), [0, 1, 3])

    def test_of_like_ones_the_first_two(self):
        self.assertEqual(near_of(1, 3, 5, 7), [2, 0, 1])
        self.assertEqual(near_of(5, 1, 3, 9, 11), [2, 0, 2])
        self.assertEqual(near_of(1, 10, 12, 30, 50, 3), [2, 0, 5])
        self.assertEqual(near_of(1, 20, 40, 42, 18), [2, 1, 4])
        self.assertEqual(near_of(10, 30, 8, 12), [2, 0, 2])

    def test_on_small_lines(self):
        for many in (2, 3, 4, 5):
            for holds in itertools.product((1, 2, 4, 8), repeat=many):
                pairs = itertools.combinations(range(many), 2)
                apart = min((abs(holds[i] - holds[j]), i, j) for i, j in pairs)
                self.assertEqual(near_of(*holds), list(apart))

    def test_twenty_four_cells(self):
        self.assertEqual(near_of(*[k * (k + 1) for k in range(1, 25)]), [4, 0, 1])
        self.assertEqual(near_of(*[k * (k + 1) for k in range(24, 0, -1)]), [4, 22, 23])

    def test_there_are_not_two(self):
        self.assertEqual(last(start(), near()), [-12])
        self.assertEqual(last(start(), cell(5), near()), [-12])
        self.assertEqual(last(start(), *cells(5, 6), scrap(0), near()), [-12])
        self.assertEqual(last(start(), *cells(5, 6), build(1, 1), near()), [-12])
        self.assertEqual(last(start(), *cells(5, 6), build(2, 1), near()), [-12])

    def test_scrap_and_packed_ones_are_not_loose(self):
        line = [start(), *cells(5, 9, 5, 6, 9), scrap(0), build(2, 1), near()]
        self.assertEqual(run(*line)[-2:], [[0], [1, 2, 3]])

    def test_a_retested_cell(self):
        line = [start(), *cells(5, 9, 20)]
        self.assertEqual(behind(line, near(), retest(0, 19), near()), [[4, 0, 1], [5], [1, 0, 2]])

    def test_what_they_resist_does_not_count(self):
        self.assertEqual(last(start(), cell(5, 7), cell(9, 7), cell(8, 100), near()), [1, 1, 2])

    def test_behind_an_exchange_and_a_retire(self):
        line = [start(), *cells(9, 5, 1), build(1, 1)]
        given = behind(line, near(), exchange(0, 2), near(), retire(0), near())
        self.assertEqual(given, [[4, 1, 2], [0], [4, 0, 1], [1], [4, 0, 1]])

    def test_it_changes_nothing(self):
        given = behind([start(), *cells(5, 6)], near(), near(), loose(), state())
        self.assertEqual(given, [[1, 0, 1], [1, 0, 1], [2, 0, 1], [2, 2, 0, 0]])


class Loose(unittest.TestCase):
    def test_how_many_then_these(self):
        self.assertEqual(last(start(), *cells(5, 6, 7), loose()), [3, 0, 1, 2])

    def test_none(self):
        self.assertEqual(last(start(), loose()), [0])
        self.assertEqual(last(start(), *cells(5, 6), scrap(0), build(1, 1), loose()), [0])

    def test_twenty_four(self):
        self.assertEqual(last(start(), *cells(*range(24, 0, -1)), loose()), [24] + list(range(24)))

    def test_scrap_and_packed_ones_are_not_loose(self):
        line = [start(), *cells(5, 9, 5, 6, 8), scrap(0), loose(), build(2, 1), loose()]
        self.assertEqual(run(*line)[-3:], [[4, 1, 2, 3, 4], [0], [2, 2, 3]])

    def test_a_refused_cell_is_not_there(self):
        self.assertEqual(last(start(), cell(0), cell(5), cell(5, 101), loose()), [1, 0])

    def test_rising_behind_an_exchange_and_a_retire(self):
        line = [start(), *cells(9, 5, 8, 6), build(2, 1)]
        self.assertEqual(
            behind(line, loose(), exchange(2, 1), loose(), exchange(0, 3), loose(), retire(0), loose()),
            [[2, 1, 3], [0], [2, 2, 3], [0], [2, 0, 2], [2], [4, 0, 1, 2, 3]],
        )

    def test_a_retested_cell_is_still_loose(self):
        self.assertEqual(last(start(), *cells(5, 6), retest(1, 1), loose()), [2, 0, 1])


class Retire(unittest.TestCase):
    def test_how_many_its_cells_were(self):
        for groups, size in ((1, 1), (2, 1), (1, 3), (2, 2), (4, 2), (2, 4)):
            with self.subTest(groups=groups, size=size):
                line = [start(), *cells(*[5] * 8), build(groups, size), retire(0)]
                self.assertEqual(last(*line), [groups * size])

    def test_its_cells_are_loose(self):
        line = [start(), *cells(5, 9, 8, 6), build(2, 1)]
        self.assertEqual(
            behind(line, loose(), retire(0), loose(), look(1), look(2), retest(1, 4), scrap(2), match(2, 1)),
            [[2, 0, 3], [2], [4, 0, 1, 2, 3], [9, 1, 0, 0], [8, 1, 0, 0], [9], [8], [5, 1, 0, 3]],
        )

    def test_it_is_no_pack_any_more(self):
        line = [start(), *cells(5, 6), build(1, 1), retire(0)]
        asked = [pack(0), strength(0), weak(0), lacks(0), better(0), resists(0), retire(0)]
        self.assertEqual(behind(line, *asked, state()), [[-2]] * 7 + [[2, 2, 0, 0]])

    def test_other_packs_stay_as_they_are(self):
        line = [start(), *cells(5, 9, 8, 6), build(1, 1), build(1, 2), build(1, 1)]
        self.assertEqual(
            behind(line, retire(1), pack(0), pack(1), pack(2), strength(2), look(0), loose(), state()),
            [[2], [1, 1, 1], [-2], [1, 1, 0], [5, 0], [5, 1, 3, 0], [2, 2, 3], [4, 2, 2, 0]],
        )

    def test_a_number_that_is_free_again(self):
        line = [start(), *cells(5, 5, 5, 5, 5), *[build(1, 1)] * 4]
        given = behind(line, retire(2), retire(0), build(1, 1), pack(0), build(1, 1), pack(2), build(1, 1), pack(4))
        self.assertEqual(given, [[1], [1], [0], [1, 1, 0], [2], [1, 1, 2], [4], [1, 1, 4]])

    def test_the_least_number_that_is_free(self):
        line = [start(), *cells(*[5] * 6), *[build(1, 1)] * 4]
        for retired in itertools.permutations(range(4), 2):
            given = behind(line, *[retire(p) for p in retired], build(1, 1), build(1, 1), build(1, 1), build(1, 1))
            self.assertEqual(given, [[1], [1], [min(retired)], [max(retired)], [4], [5]])

    def test_what_was_built_again_is_the_best_dealing(self):
        line = [start(), *cells(1, 2, 8, 10), build(2, 2), cell(5), exchange(0, 4), retire(0)]
        self.assertEqual(behind(line, build(2, 2), pack(0), loose()), [[0], [2, 2, 1, 3, 2, 4], [1, 0]])

    def test_scrap_stays_scrap(self):
        line = [start(), *cells(5, 6), scrap(0), build(1, 1), retire(0)]
        self.assertEqual(behind(line, look(0), loose(), state()), [[5, 1, 0, 1], [1, 1], [2, 1, 0, 1]])

    def test_no_such_pack(self):
        self.assertEqual(last(start(), cell(5), retire(0)), [-2])
        for p in (1, 24, MOST):
            with self.subTest(p=p):
                line = [start(), *cells(5, 6), build(1, 1)]
                self.assertEqual(behind(line, retire(p), state(), pack(0)), [[-2], [2, 1, 1, 0], [1, 1, 1]])

    def test_grades_count_its_cells_again(self):
        line = [start(6), *cells(5, 6, 7), build(1, 2)]
        self.assertEqual(behind(line, grades(), retire(0), grades()), [[2, 1, 0], [2], [2, 1, 2]])


class Look(unittest.TestCase):
    def test_a_loose_one(self):
        self.assertEqual(last(start(), cell(1, 100), look(0)), [1, 100, 0, 0])
        self.assertEqual(last(start(), cell(5, 6), cell(10000, 1), look(1)), [10000, 1, 0, 0])

    def test_the_packs_number_and_one(self):
        line = [start(), cell(5, 2), cell(7, 3), cell(6, 4), build(1, 1), build(1, 1), build(1, 1)]
        self.assertEqual(behind(line, look(0), look(1), look(2)), [[5, 2, 3, 0], [7, 3, 1, 0], [6, 4, 2, 0]])

    def test_a_scrap_one(self):
        line = [start(), cell(5, 2), cell(7, 3), scrap(0)]
        self.assertEqual(behind(line, look(0), look(1)), [[5, 2, 0, 1], [7, 3, 0, 0]])

    def test_a_retested_one(self):
        line = [start(), cell(5, 2), retest(0, 9, 8)]
        self.assertEqual(behind(line, look(0), retest(0, 1, 101), look(0)), [[9, 8, 0, 0], [-22], [9, 8, 0, 0]])

    def test_behind_an_exchange_and_a_retire(self):
        line = [start(), cell(5, 2), build(1, 1), cell(7, 3)]
        self.assertEqual(
            behind(line, look(0), exchange(0, 1), look(0), look(1), retire(0), look(1)),
            [[5, 2, 1, 0], [0], [5, 2, 0, 0], [7, 3, 1, 0], [1], [7, 3, 0, 0]],
        )

    def test_a_number_that_is_free_again(self):
        line = [start(), *cells(5, 7, 6), build(1, 1), build(1, 1), retire(0), build(1, 1)]
        self.assertEqual(behind(line, look(0), look(1), look(2)), [[5, 1, 0, 0], [7, 1, 1, 0], [6, 1, 2, 0]])

    def test_no_such_cell(self):
        self.assertEqual(last(start(), look(0)), [-2])
        for i in (1, 24, MOST):
            with self.subTest(i=i):
                self.assertEqual(last(start(), cell(5), look(i)), [-2])

    def test_the_24th_pack(self):
        line = [start()]
        for k in range(24):
            line += [cell(5), build(1, 1)]
        self.assertEqual(behind(line, look(23), look(24), look(0)), [[5, 1, 24, 0], [-2], [5, 1, 1, 0]])

    def test_its_grade_is_by_what_it_holds(self):
        line = [start(5, 8), cell(5, 9)]
        self.assertEqual(behind(line, look(0), grade(0), retest(0, 8), look(0), grade(0))[1::3], [[1], [2]])


class State(unittest.TestCase):
    def test_nothing_is_there(self):
        self.assertEqual(last(start(), state()), [0, 0, 0, 0])

    def test_cells_loose_ones_packs_scrap(self):
        line = [start(), *cells(5, 9, 8, 6, 7, 4), scrap(0), build(2, 1), build(1, 1)]
        self.assertEqual(last(*line, state()), [6, 2, 2, 1])

    def test_behind_each_call(self):
        line = [
            start(), cell(5), state(), cell(6), state(), cell(0), state(), build(1, 1), state(), exchange(1, 0),
            state(), scrap(1), state(), scrap(0), state(), cell(7), state(), exchange(0, 2), state(), scrap(0),
            state(), retire(0), state(), retest(2, 9), state(), build(2, 1), state(), build(1, 1), state(),
        ]
        self.assertEqual(
            run(*line)[2::2],
            [[1, 1, 0, 0], [2, 2, 0, 0], [2, 2, 0, 0], [2, 1, 1, 0], [2, 1, 1, 0], [2, 0, 1, 1], [2, 0, 1, 1]]
            + [[3, 1, 1, 1], [3, 1, 1, 1], [3, 0, 1, 2], [3, 1, 0, 2], [3, 1, 0, 2], [3, 1, 0, 2], [3, 0, 1, 2]],
        )

    def test_packs_and_not_their_cells_are_counted(self):
        line = [start(), *cells(*[5] * 8), build(4, 2)]
        self.assertEqual(behind(line, state(), retire(0), state()), [[8, 0, 1, 0], [8], [8, 8, 0, 0]])

    def test_twenty_four_cells(self):
        line = [start(), *cells(*[5] * 25), *[scrap(i) for i in range(24)]]
        self.assertEqual(last(*line, state()), [24, 0, 0, 24])


if __name__ == "__main__":
    unittest.main()
