"""Promise 3: given."""

import unittest

from blameline.proof import Proof
from tests.helper import HIGHEST, LOWEST, begin, check_refused, given, last, letter, line, run

# Letter 0 is known to both, 1 and 3 are the first side's own, 2 and 4 the second's.
LETTERS = [begin(), letter(0), letter(1), letter(2), letter(1), letter(2)]
SOME = LETTERS + [given(1, 0, 3), given(2, 1, 4)]
FULL = LETTERS + [given(1, 0, 3)] * 256


class Given(unittest.TestCase):
    def test_numbers_from_0_on(self):
        self.assertEqual(run(SOME + [given(1, 0, 3), given(2)])[6:], [[0], [1], [2], [3]])

    def test_by_the_first_side(self):
        calls = LETTERS + [given(1, 0, 3, 6), line(0, 24)]
        self.assertEqual(run(calls)[6:], [[0], [3, 0, 3, 6]])

    def test_by_the_second_side(self):
        calls = LETTERS + [given(2, 1, 5, 8), line(0, 24)]
        self.assertEqual(run(calls)[6:], [[0], [3, 1, 5, 8]])

    def test_each_sign_of_a_side(self):
        good = {1: (0, 1, 2, 3, 6, 7), 2: (0, 1, 4, 5, 8, 9)}
        for side in (1, 2):
            for sign in range(10):
                expected = [0] if sign in good[side] else [-1]
                self.assertEqual(last(LETTERS + [given(side, sign)]), expected, (side, sign))

    def test_any_order_and_more_than_once(self):
        calls = LETTERS + [given(1, 7, 0, 3, 7, 7, 0), line(0, 24)]
        self.assertEqual(run(calls)[6:], [[0], [3, 0, 3, 7]])

    def test_no_signs(self):
        for side in (1, 2):
            self.assertEqual(run([given(side), line(0, 24)]), [[0], [0]])

    def test_48_signs(self):
        letters = [begin()] + [letter(0)] * 24
        signs = [2 * x + x % 2 for x in range(24)]
        calls = letters + [given(2, *signs, *reversed(signs)), line(0, 24)]
        self.assertEqual(run(calls)[25:], [[0], [24] + signs])
        calls = letters + [given(1, *[5] * 48), line(0, 24)]
        self.assertEqual(run(calls)[25:], [[0], [1, 5]])

    def test_49_signs(self):
        proof = Proof()
        proof.add_letter(0)
        self.assertEqual(proof.add_given(1, [0] * 49), -1)
        self.assertEqual(proof.add_given(1, [0] * 48), 0)

    def test_wrong_side(self):
        for side in (LOWEST, -1, 0, 3, HIGHEST):
            check_refused(self, SOME, given(side, 0), -1)
            check_refused(self, SOME, given(side), -1)

    def test_sign_of_no_letter(self):
        for sign in (10, 11, 48, 254, 255):
            check_refused(self, SOME, given(1, sign), -1)
            check_refused(self, SOME, given(2, 0, sign, 0), -1)
        check_refused(self, [begin()], given(1, 0), -1)

    def test_sign_of_the_other_side(self):
        for sign in (4, 5, 8, 9):
            check_refused(self, SOME, given(1, sign), -1)
            check_refused(self, SOME, given(1, 0, 3, sign), -1)
            check_refused(self, SOME, given(1, sign, 3, 0), -1)
        for sign in (2, 3, 6, 7):
            check_refused(self, SOME, given(2, sign), -1)
            check_refused(self, SOME, given(2, 0, 5, sign), -1)

    def test_both_signs_of_a_letter(self):
        check_refused(self, SOME, given(1, 0, 1), -1)
        check_refused(self, SOME, given(2, 1, 0), -1)
        check_refused(self, SOME, given(1, 6, 0, 3, 7), -1)
        check_refused(self, SOME, given(2, 9, 9, 0, 8), -1)

    def test_neighbours_of_two_letters_are_no_pair(self):
        self.assertEqual(last(LETTERS + [given(1, 1, 2)]), [0])

    def test_256_lines_and_no_more(self):
        answers = run([begin()] + [given(1)] * 257)
        self.assertEqual(answers, [[0]] + [[k] for k in range(256)] + [[-2]])

    def test_the_257th_changes_nothing(self):
        for call in (given(1, 0), given(2), given(2, 4, 1)):
            check_refused(self, FULL, call, -2, (0, 1, 254, 255, 256))

    def test_wrong_comes_before_too_many(self):
        for call in (given(0), given(3, 0), given(1, 10), given(1, 4), given(2, 2), given(1, 0, 1)):
            check_refused(self, FULL, call, -1, (0, 255, 256))


if __name__ == "__main__":
    unittest.main()
