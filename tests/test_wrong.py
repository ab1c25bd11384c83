"""Promise 8: wrong."""

import unittest

from tests.helper import ALL_TRUE, HIGHEST, LOWEST, begin, blame, empty, given, last, letter, run, step, wrong

# Lines 0 to 2 by both sides; line 4, without signs, is two steps behind them.
TWO_STEPS = [
    begin(), letter(0), letter(1),
    given(1, 0, 2), given(2, 1), given(1, 3),
    step(0, 1, 0), step(3, 2, 1),
]
# All four lines over two letters; the step without signs has a step on either hand.
TREE = [
    begin(), letter(0), letter(0),
    given(1, 0, 2), given(2, 0, 3), given(1, 1, 2), given(2, 1, 3),
    step(0, 1, 1), step(2, 3, 1), step(4, 5, 0),
]


def chain(side, giver):
    """Line 0 says that a letter is true; each line behind it takes one letter off, the greatest first."""
    calls = [begin()] + [letter(side) for x in range(24)]
    calls += [given(giver, *range(0, 48, 2))] + [given(giver, 2 * x + 1) for x in range(24)]
    calls += [step(0, 24, 23)] + [step(25 + turn, 23 - turn, 22 - turn) for turn in range(23)]
    return calls


class Wrong(unittest.TestCase):
    def test_no_line_without_signs(self):
        for v in (0, 1, ALL_TRUE):
            self.assertEqual(last([begin(), wrong(v)]), [-1])
            self.assertEqual(last([begin(), letter(0), wrong(v)]), [-1])
            self.assertEqual(last([begin(), letter(0), given(1, 0), wrong(v)]), [-1])
            self.assertEqual(last(TWO_STEPS[:-1] + [wrong(v)]), [-1])

    def test_v_outside(self):
        for v in (LOWEST, -ALL_TRUE, -2, -1, ALL_TRUE + 1, ALL_TRUE + 2, 2 ** 25, 2 ** 30, HIGHEST):
            self.assertEqual(last([begin(), given(1), wrong(v)]), [-1], v)
            self.assertEqual(last(TREE + [wrong(v)]), [-1], v)
            self.assertEqual(last([begin(), wrong(v)]), [-1], v)

    def test_v_at_its_ends(self):
        self.assertEqual(last(TREE + [wrong(0)]), [0])
        self.assertEqual(last(TREE + [wrong(ALL_TRUE)]), [3])

    def test_a_given_line_without_signs(self):
        for side in (1, 2):
            for v in (0, 1, 5, ALL_TRUE):
                self.assertEqual(last([begin(), given(side), wrong(v)]), [0])
                self.assertEqual(last([begin(), letter(0), given(1, 0), given(side), wrong(v)]), [1])

    def test_one_step(self):
        for side, givers in ((0, (1, 2)), (0, (2, 1)), (1, (1, 1)), (2, (2, 2))):
            calls = [begin(), letter(side), given(givers[0], 0), given(givers[1], 1), step(0, 1, 0)]
            self.assertEqual(last(calls + [wrong(0)]), [0])
            self.assertEqual(last(calls + [wrong(1)]), [1])

    def test_one_step_with_line_j_before_line_i(self):
        calls = [begin(), letter(0), given(1, 1), given(2, 0), step(1, 0, 0)]
        self.assertEqual(last(calls + [wrong(0)]), [1])
        self.assertEqual(last(calls + [wrong(1)]), [0])

    def test_two_steps_one_behind_the_other(self):
        told = [last(TWO_STEPS + [wrong(v)]) for v in range(4)]
        self.assertEqual(told, [[0], [1], [2], [2]])

    def test_steps_on_both_hands(self):
        told = [last(TREE + [wrong(v)]) for v in range(4)]
        self.assertEqual(told, [[0], [2], [1], [3]])

    def test_letters_that_no_step_is_on(self):
        for v in range(4, 2 ** 24, 999983):
            self.assertEqual(last(TREE + [wrong(v)]), last(TREE + [wrong(v % 4)]), v)
        self.assertEqual(last(TREE + [wrong(ALL_TRUE - 3)]), [0])

    def test_each_of_24_letters(self):
        for x in range(24):
            calls = [begin()] + [letter(0)] * 24 + [given(1, 2 * x), given(2, 2 * x + 1), step(0, 1, x)]
            self.assertEqual(last(calls + [wrong(2 ** x)]), [1], x)
            self.assertEqual(last(calls + [wrong(ALL_TRUE - 2 ** x)]), [0], x)
            self.assertEqual(last(calls + [wrong(0)]), [0], x)
            self.assertEqual(last(calls + [wrong(ALL_TRUE)]), [1], x)

    def test_24_steps_one_behind_another(self):
        for side, giver in ((0, 1), (0, 2), (1, 1), (2, 2)):
            calls = chain(side, giver)
            self.assertEqual(last(calls + [empty()]), [48])
            self.assertEqual(last(calls + [wrong(0)]), [0])
            # The steps nearest to the line without signs are on the least letters.
            for x in range(24):
                self.assertEqual(last(calls + [wrong(2 ** x)]), [x + 1])
                self.assertEqual(last(calls + [wrong(ALL_TRUE - 2 ** x + 1)]), [x + 1])

    def test_lines_behind_the_first_without_signs_change_nothing(self):
        behind = [given(2), given(1), given(1, 0), given(2, 1), step(9, 10, 0), letter(0)]
        for v in range(4):
            self.assertEqual(last(TREE + behind + [wrong(v)]), last(TREE + [wrong(v)]), v)

    def test_not_a_later_line_without_signs(self):
        # Line 2 comes to lines 0 and 1; lines 3 and 4 are given behind it, and have none either.
        calls = [begin(), letter(0), given(1, 0), given(2, 1), step(0, 1, 0), given(1), given(2)]
        self.assertEqual([last(calls + [wrong(v)]) for v in (0, 1)], [[0], [1]])

    def test_a_given_line_first_and_a_step_behind_it(self):
        calls = [begin(), letter(0), given(2), given(1, 0), given(2, 1), step(1, 2, 0)]
        self.assertEqual([last(calls + [wrong(v)]) for v in (0, 1)], [[0], [0]])

    def test_letters_that_come_later(self):
        self.assertEqual(last(TREE + [letter(1), wrong(7)]), [3])

    def test_behind_another_begin(self):
        self.assertEqual(last(TREE + [wrong(0), begin(), wrong(0)]), [-1])
        again = [begin(), letter(0), given(2, 1), given(1, 0), step(1, 0, 0)]
        self.assertEqual(last(TREE + [wrong(0)] + again + [wrong(0)]), [1])

    def test_changes_nothing(self):
        calls = TREE + [wrong(0), wrong(-1), wrong(3), wrong(0), blame(3), given(1)]
        self.assertEqual(run(calls)[10:], [[0], [-1], [3], [0], [2], [7]])


if __name__ == "__main__":
    unittest.main()
