"""Promise 9: blame."""

import unittest

from tests.helper import ALL_TRUE, HIGHEST, LOWEST, begin, blame, empty, given, last, letter, run, step, wrong

# Letter 0 is own, letters 1 and 2 are known to both.
# Line 4, with the sign 0, blames the second if letter 1 is true, and line 5, with the sign 1, if letter 2 is.
FIRST_OWN = [
    begin(), letter(1), letter(0), letter(0),
    given(1, 0, 2), given(2, 3), given(1, 1, 4), given(2, 5),
    step(0, 1, 1), step(2, 3, 2), step(4, 5, 0),
]
# Line 4 blames the second if letter 1 is false, and line 5 if letter 2 is.
SECOND_OWN = [
    begin(), letter(2), letter(0), letter(0),
    given(2, 0, 2), given(1, 3), given(2, 1, 4), given(1, 5),
    step(0, 1, 1), step(2, 3, 2), step(4, 5, 0),
]


def blames(calls, numbers):
    return [last(calls + [blame(v)])[0] for v in numbers]


class Blame(unittest.TestCase):
    def test_no_line_without_signs(self):
        for v in (0, 1, ALL_TRUE):
            self.assertEqual(last([begin(), blame(v)]), [-1])
            self.assertEqual(last([begin(), letter(0), blame(v)]), [-1])
            self.assertEqual(last([begin(), letter(0), given(2, 0), blame(v)]), [-1])
            self.assertEqual(last(FIRST_OWN[:-1] + [blame(v)]), [-1])

    def test_v_outside(self):
        for v in (LOWEST, -ALL_TRUE, -2, -1, ALL_TRUE + 1, ALL_TRUE + 2, 2 ** 25, 2 ** 30, HIGHEST):
            self.assertEqual(last([begin(), given(2), blame(v)]), [-1], v)
            self.assertEqual(last(FIRST_OWN + [blame(v)]), [-1], v)
            self.assertEqual(last([begin(), blame(v)]), [-1], v)

    def test_v_at_its_ends(self):
        self.assertEqual(blames(FIRST_OWN, (0, ALL_TRUE)), [1, 2])
        self.assertEqual(blames(SECOND_OWN, (0, ALL_TRUE)), [2, 1])

    def test_a_given_line_without_signs(self):
        for side in (1, 2):
            for v in (0, 1, 5, ALL_TRUE):
                self.assertEqual(last([begin(), given(side), blame(v)]), [side])
                self.assertEqual(last([begin(), letter(0), given(3 - side, 0), given(side), blame(v)]), [side])

    def test_a_step_on_a_letter_that_both_know(self):
        for i_by in (1, 2):
            for j_by in (1, 2):
                calls = [begin(), letter(0), given(i_by, 0), given(j_by, 1), step(0, 1, 0)]
                self.assertEqual(blames(calls, (0, 1)), [i_by, j_by])
                calls = [begin(), letter(0), given(j_by, 1), given(i_by, 0), step(1, 0, 0)]
                self.assertEqual(blames(calls, (0, 1)), [i_by, j_by])

    def test_a_step_on_a_letter_of_its_givers(self):
        for side in (1, 2):
            calls = [begin(), letter(side), given(side, 0), given(side, 1), step(0, 1, 0)]
            self.assertEqual(blames(calls, (0, 1)), [side, side])

    def test_a_step_on_a_letter_of_the_first_side(self):
        # None of its two lines blames the second, then i alone, j alone, both.
        self.assertEqual(blames(FIRST_OWN, (0, 2, 4, 6)), [1, 2, 2, 2])

    def test_a_step_on_a_letter_of_the_second_side(self):
        # Both of its two lines blame the second, then j alone, i alone, none.
        self.assertEqual(blames(SECOND_OWN, (0, 2, 4, 6)), [2, 1, 1, 1])

    def test_own_letters_do_not_matter(self):
        for calls in (FIRST_OWN, SECOND_OWN):
            self.assertEqual(blames(calls, (1, 3, 5, 7)), blames(calls, (0, 2, 4, 6)))

    def test_letters_that_no_step_is_on(self):
        for calls in (FIRST_OWN, SECOND_OWN):
            for v in range(8, 2 ** 24, 999983):
                self.assertEqual(blames(calls, (v,)), blames(calls, (v % 8,)), v)

    def test_each_of_24_letters(self):
        for x in range(24):
            calls = [begin()] + [letter(0)] * 24 + [given(1, 2 * x), given(2, 2 * x + 1), step(0, 1, x)]
            numbers = (0, 2 ** x, ALL_TRUE - 2 ** x, ALL_TRUE)
            self.assertEqual(blames(calls, numbers), [1, 2, 1, 2], x)

    def test_blame_is_not_the_giver_of_the_wrong_line(self):
        # Letter 2 alone is true: one comes to line 0, but line 3 is wrong whatever the own letter is.
        self.assertEqual(run(FIRST_OWN + [wrong(4), blame(4)])[11:], [[0], [2]])
        self.assertEqual(run(SECOND_OWN + [wrong(4), blame(4)])[11:], [[0], [1]])

    def test_steps_on_own_letters_below_one_that_both_know(self):
        calls = [
            begin(), letter(0), letter(1), letter(2),
            given(1, 0, 2), given(1, 0, 3), given(2, 1, 4), given(2, 1, 5),
            step(0, 1, 1), step(2, 3, 2), step(4, 5, 0),
        ]
        self.assertEqual(blames(calls, range(8)), [1, 2] * 4)

    def test_steps_on_each_sort_of_letter_one_behind_another(self):
        # Letter 0 is the first's own, letter 2 the second's, the others are known to both.
        calls = [
            begin(), letter(1), letter(0), letter(2), letter(0), letter(0),
            given(1, 0, 2), given(1, 1, 6), step(0, 1, 0),
            given(2, 3, 4), given(2, 7), step(2, 3, 1), step(5, 4, 3),
            given(2, 5, 9), given(1, 8), step(8, 7, 4),
            step(6, 9, 2), empty(),
        ]
        self.assertEqual(last(calls), [10])
        # Line 6 blames the second if letter 1 or 3 is true, line 9 if letter 4 is.
        self.assertEqual(blames(calls, (0, 2, 8, 10)), [1, 1, 1, 1])
        self.assertEqual(blames(calls, (16, 18, 24, 26)), [1, 2, 2, 2])
        self.assertEqual(blames(calls, (21, 23, 29, 31)), [1, 2, 2, 2])

    def test_a_line_that_is_used_more_than_once(self):
        for side in (1, 2):
            other = 3 - side
            # Lines 4 and 5 are both from line 1, and line 7 is from both of them.
            calls = [
                begin(), letter(side), letter(0), letter(0),
                given(side, 0, 2), given(other, 3, 4), given(side, 1, 2), given(other, 5),
                step(0, 1, 1), step(2, 1, 1), step(4, 5, 0), step(6, 3, 2), empty(),
            ]
            self.assertEqual(last(calls), [7])
            # Letter 2 true: line 3's giver. False: lines 4 and 5 blame alike, as letter 1 tells.
            self.assertEqual(blames(calls, (0, 2, 4, 6)), [side, other, other, other])

    def test_lines_behind_the_first_without_signs_change_nothing(self):
        behind = [given(2), given(1), given(1, 0), given(1, 1), step(9, 10, 0), letter(0)]
        numbers = (0, 2, 4, 6)
        self.assertEqual(blames(FIRST_OWN + behind, numbers), blames(FIRST_OWN, numbers))

    def test_a_given_line_first_and_a_step_behind_it(self):
        for side in (1, 2):
            by = 3 - side
            calls = [begin(), letter(0), given(side), given(by, 0), given(by, 1), step(1, 2, 0), given(by)]
            self.assertEqual(blames(calls, (0, 1)), [side, side])

    def test_lines_that_the_first_without_signs_is_not_from(self):
        calls = FIRST_OWN[:-1] + [given(2, 3, 5), given(2, 2), step(4, 5, 0), given(2)]
        self.assertEqual(run(calls)[-2:], [[8], [9]])
        self.assertEqual(blames(calls, (0, 2, 4, 6)), [1, 2, 2, 2])

    def test_behind_another_begin(self):
        self.assertEqual(last(FIRST_OWN + [blame(6), begin(), blame(6)]), [-1])
        again = [begin(), letter(0), given(2, 1), given(1, 0), step(1, 0, 0)]
        self.assertEqual(run(FIRST_OWN + [blame(6)] + again + [blame(0), blame(1)])[-2:], [[1], [2]])

    def test_the_sides_of_the_letters_are_those_behind_begin(self):
        told = run(FIRST_OWN + [blame(2)] + SECOND_OWN + [blame(2)])
        self.assertEqual(told[11:], [[2]] + run(SECOND_OWN) + [[1]])

    def test_changes_nothing(self):
        calls = FIRST_OWN + [blame(0), blame(-1), blame(2), blame(0), wrong(0), given(1)]
        self.assertEqual(run(calls)[11:], [[1], [-1], [2], [1], [0], [7]])


if __name__ == "__main__":
    unittest.main()
