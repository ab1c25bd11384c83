"""Promises 8 and 9 on proofs as long as may be: wrong and blame answer at once."""

import signal
import unittest

from tests.helper import begin, blame, empty, given, last, letter, line, run, step, width, wrong


def too_slow(signum, frame):
    raise AssertionError("no answer within some seconds")


def row_of_steps(letter_side, givers):
    """256 lines; each step is from the line before it, to and fro between letters 0 and 1."""
    calls = [begin(), letter(letter_side), letter(letter_side)]
    calls += [given(givers[0], 0), given(givers[1], 1, 2), given(givers[2], 3, 0), given(givers[3], 3)]
    calls.append(step(0, 1, 0))
    for k in range(5, 255):
        calls.append(step(k - 1, 2, 1) if k % 2 == 1 else step(k - 1, 1, 0))
    calls.append(step(254, 3, 1))
    return calls


def doubled(side, first_giver, last_giver):
    """Each third line is used twice on the way to the next third one, 82 times over."""
    # Letters 0 and 1 are known to both, letter 2 is a side's own.
    calls = [begin(), letter(0), letter(0), letter(side), given(first_giver, 0)]
    calls += [given(side, 1, 4), given(side, 1, 5, 2), given(side, 3, 4), given(side, 3, 5, 0)]
    calls += [given(last_giver, 1), given(last_giver, 3)]
    start = 0
    k = 7
    for turn in range(82):
        x = turn % 2
        i = 1 + 2 * x
        calls += [step(start, i, x), step(start, i + 1, x), step(k, k + 1, 2)]
        start = k + 2
        k += 3
    calls.append(step(start, 5, 0))
    return calls


class Long(unittest.TestCase):
    def setUp(self):
        self.before = signal.signal(signal.SIGALRM, too_slow)
        signal.alarm(20)

    def tearDown(self):
        signal.alarm(0)
        signal.signal(signal.SIGALRM, self.before)

    def test_256_lines_each_step_from_the_one_before(self):
        calls = row_of_steps(0, (1, 1, 2, 2))
        self.assertEqual(run(calls)[3:], [[k] for k in range(256)])
        self.assertEqual(last(calls + [empty()]), [255])
        self.assertEqual(last(calls + [width()]), [2])
        self.assertEqual([last(calls + [wrong(v)]) for v in range(4)], [[0], [1], [3], [3]])
        self.assertEqual([last(calls + [blame(v)]) for v in range(4)], [[1], [1], [2], [2]])
        calls = row_of_steps(0, (2, 1, 1, 1))
        self.assertEqual([last(calls + [blame(v)]) for v in range(4)], [[2], [1], [1], [1]])

    def test_256_lines_on_own_letters(self):
        for side in (1, 2):
            calls = row_of_steps(side, (side,) * 4)
            self.assertEqual(last(calls), [255])
            self.assertEqual([last(calls + [wrong(v)]) for v in range(4)], [[0], [1], [3], [3]])
            self.assertEqual([last(calls + [blame(v)]) for v in range(4)], [[side]] * 4)

    def test_lines_used_twice_many_times_over(self):
        for side in (1, 2):
            calls = doubled(side, side, side)
            self.assertEqual(run(calls)[4:], [[k] for k in range(254)])
            self.assertEqual(last(calls + [line(252, 24)]), [1, 0])
            self.assertEqual(last(calls + [empty()]), [253])
            self.assertEqual([last(calls + [blame(v)]) for v in range(8)], [[side]] * 8)

    def test_lines_used_twice_by_both_sides(self):
        for side in (1, 2):
            other = 3 - side
            # Letter 0 false: back to line 0 if letter 1 is false too, to a line of the side's own if it's true.
            calls = doubled(side, other, side)
            self.assertEqual([last(calls + [blame(v)]) for v in range(4)], [[other], [side], [side], [side]])
            self.assertEqual([last(calls + [wrong(v)]) for v in range(8)],
                             [[0], [5], [3], [5], [0], [5], [4], [5]])
            calls = doubled(side, side, other)
            self.assertEqual([last(calls + [blame(v)]) for v in range(4)], [[side], [other], [side], [other]])

    def test_many_times_in_one_list(self):
        calls = doubled(1, 1, 1)
        told = run(calls + [wrong(0), blame(0)] * 20)[len(calls):]
        self.assertEqual(told, [[0], [1]] * 20)


if __name__ == "__main__":
    unittest.main()
