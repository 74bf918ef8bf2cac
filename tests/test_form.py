"""How calls are handed in and how answers are given back."""

import unittest

from cellpacks.shop import answers
from tests.lines import (
    MOST, behind, better, build, cell, cells, could, exchange, flat, grade, grades, lacks, last, look, loose, match,
    near, pack, resists, retest, retire, run, scrap, start, state, strength, weak,
)

OTHER_CALLS = [
    cell(5, 5), cell(0, 0), retest(0, 5, 5), scrap(0), grade(0), grades(), match(1, 1), match(0, 9), build(1, 1),
    build(MOST, MOST), could(1, 1, 0), could(5, 5, MOST), pack(0), strength(0), weak(0), lacks(0), better(0),
    better(MOST), exchange(0, 1), exchange(MOST, MOST), resists(0), near(), loose(), retire(0), look(0), look(MOST),
    state(),
]


class Unchangeable(list):
    """A list that can't be changed, not for a while either."""

    def refuse(self, *handed, **named):
        raise AssertionError("the list handed in was changed")

    append = extend = insert = pop = remove = clear = sort = reverse = refuse
    __setitem__ = __delitem__ = __iadd__ = __imul__ = refuse


LONG_LINE = flat(
    [start(10, 20), cell(5, 1), cell(10, 2), cell(20, 3), cell(25, 100), cell(0, 1), retest(0, 15, 2), scrap(3)]
    + [grade(2), grades(), match(2, 1), could(2, 1, 15), build(2, 1), pack(0), strength(0), pack(1), start(5, 5)]
    + [strength(0), start(), grades(), pack(0)]
)
PACK_LINE = flat(
    [start(), cell(5, 2), cell(10, 3), cell(20, 6), cell(25, 100), scrap(3), build(2, 1), weak(0), lacks(0), better(0)]
    + [retest(0, 15, 2), better(0), exchange(1, 0), pack(0), resists(0), near(), loose(), look(0), look(1), state()]
    + [exchange(2, 1), exchange(1, 1), near(), retire(0), near(), better(0), loose(), state()]
)
LONG_ANSWERS = (
    [1, 0, 1, 0, 1, 1, 1, 2, 1, 3, 1, -22, 1, 5, 1, 25]
    + [1, 2, 4, 3, 0, 2, 1, 4, 15, 5, 0, 2, 1, 1, 1, 0, 4, 2, 1, 0, 2, 2, 15, 5, 1, -2, 1, -22]
    + [2, 15, 5, 1, 0, 2, 1, 0, 1, -2]
)
PACK_ANSWERS = (
    [1, 0, 1, 0, 1, 1, 1, 2, 1, 3, 1, 25, 1, 0, 2, 0, 10, 3, 2, 10, 0, 1, -33]
    + [1, 5, 3, 15, 1, 0, 1, 0, 4, 2, 1, 0, 2, 3, 0, 8, 1, 1, -12, 2, 1, 1]
    + [4, 15, 2, 1, 0, 4, 10, 3, 0, 0, 4, 4, 1, 1, 1]
    + [1, 0, 1, -16, 1, -12, 1, 2, 3, 5, 0, 1, 1, -2, 4, 3, 0, 1, 2, 4, 4, 3, 0, 1]
)


class Form(unittest.TestCase):
    def test_each_answer_stands_behind_its_count(self):
        self.assertEqual(answers(LONG_LINE), LONG_ANSWERS)
        self.assertEqual(answers(PACK_LINE), PACK_ANSWERS)

    def test_one_call_is_a_line(self):
        self.assertEqual(answers([0, 0]), [1, 0])
        self.assertEqual(answers([20]), [1, -11])

    def test_answers_are_a_list_of_whole_numbers(self):
        for line in (LONG_LINE, PACK_LINE):
            given = answers(line)
            self.assertIs(type(given), list)
            self.assertEqual({type(number) for number in given}, {int})

    def test_could_answers_a_number_and_no_truth_value(self):
        for asked in (0, 9):
            self.assertIs(type(last(start(), cell(5), could(1, 1, asked))[0]), int)

    def test_how_many_numbers_each_call_answers(self):
        line = [start(3, 4), *cells(1, 2, 3, 4), retest(0, 2), scrap(0), grade(1), grades(), match(3, 1)]
        line += [could(3, 1, 1), build(3, 1), pack(0), strength(0)]
        self.assertEqual([len(answer) for answer in run(*line)], [1, 1, 1, 1, 1, 1, 1, 1, 4, 5, 1, 1, 5, 2])

    def test_how_many_numbers_each_call_of_packs_and_loose_cells_answers(self):
        before = [start(), *cells(1, 5, 9), build(3, 1), *cells(7, 8)]
        asked = [weak(0), lacks(0), better(0), exchange(0, 3), resists(0), near(), loose(), look(0), state(), retire(0)]
        self.assertEqual([len(answer) for answer in behind(before, *asked)], [2, 4, 3, 1, 3, 3, 3, 4, 4, 1])

    def test_a_refusal_stands_alone(self):
        line = [start(), retest(0, 1), scrap(0), grade(0), match(0, 1), match(1, 1), build(5, 1), build(1, 1)]
        line += [could(1, 5, 0), could(1, 1, 0), pack(0), strength(0), cell(0)]
        self.assertEqual(
            run(*line),
            [[0], [-2], [-2], [-2], [-22], [-12], [-22], [-12], [-22], [-12], [-2], [-2], [-22]],
        )
        asked = [weak(1), lacks(1), better(1), better(0), exchange(2, 0), exchange(1, 0), exchange(0, 0), resists(1)]
        asked += [near(), retire(1), look(2)]
        self.assertEqual(
            behind([start(), *cells(9, 8), build(1, 1)], *asked),
            [[-2], [-2], [-2], [-33], [-2], [-6], [-16], [-2], [-12], [-2], [-2]],
        )

    def test_what_is_handed_in_is_as_it_was(self):
        for line in (LONG_LINE, PACK_LINE):
            handed = list(line)
            answers(handed)
            self.assertEqual(handed, line)

    def test_what_is_handed_in_is_not_changed_for_a_while_either(self):
        self.assertEqual(answers(Unchangeable(LONG_LINE)), LONG_ANSWERS)
        self.assertEqual(answers(Unchangeable(PACK_LINE)), PACK_ANSWERS)

    def test_nothing_is_kept_from_one_time_to_the_next(self):
        for line in (PACK_LINE, LONG_LINE, PACK_LINE):
            self.assertEqual(answers(line), LONG_ANSWERS if line is LONG_LINE else PACK_ANSWERS)
        first = answers(LONG_LINE)
        self.assertEqual(answers([5]), [1, -11])
        self.assertEqual(answers(LONG_LINE), first)
        given = answers(LONG_LINE)
        given.append(7)
        self.assertEqual(answers(LONG_LINE), first)

    def test_two_hundred_calls(self):
        given = run(start(), *[cell(k % 9 + 1) for k in range(8)], *[match(4, 2) for k in range(191)])
        self.assertEqual(len(given), 200)
        self.assertEqual(given[9:], [given[9]] * 191)

    def test_the_longest_list_of_bounds(self):
        line = [start(*range(60)), *[start(*[MOST] * 60)] * 198, start(1)]
        self.assertEqual(run(*line), [[-22]] * 199 + [[0]])


class BeforeAStart(unittest.TestCase):
    def test_every_other_call_is_refused(self):
        for call in OTHER_CALLS:
            with self.subTest(call=call):
                self.assertEqual(run(call), [[-11]])
                self.assertEqual(run(call, start(5), grades()), [[-11], [0], [2, 0, 0]])

    def test_a_refused_start_is_no_start(self):
        self.assertEqual(run(start(2, 1), *OTHER_CALLS), [[-22]] + [[-11]] * len(OTHER_CALLS))

    def test_refused_calls_leave_nothing_behind(self):
        line = [cell(5), build(1, 1), start(), grades(), pack(0), cell(7)]
        self.assertEqual(run(*line), [[-11], [-11], [0], [1, 0], [-2], [0]])


class SecondStart(unittest.TestCase):
    before = [start(5), *cells(4, 5, 6), scrap(0), build(1, 1)]

    def test_one_that_answers_0_leaves_nothing_there(self):
        line = self.before + [start(1, 2), grades(), grade(0), pack(0), strength(0), match(1, 1), cell(2), grade(0)]
        self.assertEqual(run(*line)[6:], [[0], [3, 0, 0, 0], [-2], [-2], [-2], [-12], [0], [2]])

    def test_one_that_is_refused_leaves_all_as_it_was(self):
        line = self.before + [start(2, 2), grades(), grade(1), pack(0), strength(0), match(1, 1), cell(2), grade(0)]
        self.assertEqual(run(*line)[6:], [[-22], [2, 0, 1], [1], [1, 1, 2], [6, 0], [5, 0, 1], [3], [0]])

    packs_and_loose = [
        weak(0), lacks(0), better(0), exchange(2, 1), resists(0), near(), loose(), look(1), look(0), state(), retire(0),
    ]

    def test_packs_and_loose_cells_behind_one_that_answers_0(self):
        given = behind(self.before, cell(9), start(5), *self.packs_and_loose, state())
        nothing = [[-2], [-2], [-2], [-2], [-2], [-12], [0], [-2], [-2], [0, 0, 0, 0], [-2], [0, 0, 0, 0]]
        self.assertEqual(given, [[3], [0]] + nothing)

    def test_packs_and_loose_cells_behind_one_that_is_refused(self):
        given = behind(self.before, cell(9), start(6, 6), *self.packs_and_loose, state())
        as_it_was = [[0, 6], [1, 0], [9, 2, 3], [0], [0, 1, 1], [3, 2, 3], [2, 2, 3], [5, 1, 1, 0], [4, 1, 0, 1]]
        self.assertEqual(given, [[3], [-22]] + as_it_was + [[4, 2, 1, 1], [1], [4, 3, 0, 1]])

    def test_each_call_alone_behind_one_that_is_refused(self):
        for call in self.packs_and_loose:
            with self.subTest(call=call):
                alone = behind(self.before, cell(9), call)[-1]
                self.assertEqual(behind(self.before, cell(9), start(10001), call)[-1], alone)

    def test_pack_numbers_begin_anew(self):
        line = self.before + [build(1, 1), start(), cell(1), build(1, 1)]
        self.assertEqual(run(*line)[5:], [[0], [1], [0], [0], [0]])


if __name__ == "__main__":
    unittest.main()
