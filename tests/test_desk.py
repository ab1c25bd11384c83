"""The interface: how calls and answers stand in one list, and that nothing is kept."""

import unittest

from blameline.desk import answers


class Desk(unittest.TestCase):
    def test_an_empty_list(self):
        self.assertEqual(answers([]), [])

    def test_each_call_by_its_number(self):
        self.assertEqual(answers([0]), [1, 0])
        self.assertEqual(answers([0, 1, 2]), [1, 0, 1, 0])
        self.assertEqual(answers([0, 2, 1, 0]), [1, 0, 1, 0])
        self.assertEqual(answers([0, 3, 0, 0, 0]), [1, 0, 1, -1])
        self.assertEqual(answers([0, 4, 0, 24]), [1, 0, 1, -1])
        self.assertEqual(answers([0, 5]), [1, 0, 1, 0])
        self.assertEqual(answers([0, 6]), [1, 0, 1, -1])
        self.assertEqual(answers([0, 7, 0]), [1, 0, 1, -1])
        self.assertEqual(answers([0, 8, 0]), [1, 0, 1, -1])

    def test_several_calls_in_one_list(self):
        calls = [0, 1, 0, 1, 1, 2, 1, 3, 2, 0, 2, 2, 2, 1, 1, 3, 0, 1, 0, 4, 2, 24, 4, 0, 1, 4, 3, 1]
        told = [1, 0, 1, 0, 1, 1, 1, 0, 1, 1, 1, 2, 2, 1, 2, 2, 2, 0, 1, -1]
        self.assertEqual(answers(calls), told)

    def test_all_calls_in_one_list(self):
        calls = [0, 1, 0, 2, 1, 1, 0, 2, 2, 1, 1, 3, 0, 1, 0, 5, 6, 7, 0, 7, 1, 8, 0, 8, 1, 4, 2, 1, 5]
        told = [1, 0, 1, 0, 1, 0, 1, 1, 1, 2, 1, 1, 1, 2, 1, 0, 1, 1, 1, 1, 1, 2, 1, 0, 1, 1]
        self.assertEqual(answers(calls), told)

    def test_begin_behind_each_call_begins_anew(self):
        proof = [1, 0, 2, 2, 1, 0, 2, 2, 1, 1, 3, 0, 1, 0]
        for call in ([5], [6], [7, 0], [7, -1], [8, 0], [8, -1]):
            told = answers([0] + proof + call + [0, 5, 6, 7, 0, 8, 0, 1, 1])
            self.assertEqual(told[-12:], [1, 0, 1, 0, 1, -1, 1, -1, 1, -1, 1, 0], call)

    def test_width_empty_wrong_and_blame_change_nothing(self):
        proof = [0, 1, 0, 1, 1, 2, 1, 2, 0, 2, 2, 2, 1, 1, 2, 1, 1, 3, 3, 0, 1, 0, 3, 3, 2, 1]
        rest = [4, 0, 24, 4, 3, 24, 4, 4, 24, 5, 6, 7, 1, 8, 1, 7, 0, 8, 0, 3, 0, 1, 0, 2, 1, 1, 2, 1, 2]
        before = answers(proof)
        for calls in ([5], [6], [7, 0], [7, 3], [7, -1], [8, 0], [8, 3], [8, -1], [5, 6, 7, 2, 8, 2]):
            told = answers(proof + calls + rest)
            behind = answers(proof + rest)[len(before):]
            self.assertEqual(told[:len(before)], before, calls)
            self.assertEqual(told[-len(behind):], behind, calls)

    def test_a_refused_line_is_read_to_its_end(self):
        self.assertEqual(answers([0, 2, 3, 2, 4, 4, 1, 0]), [1, 0, 1, -1, 1, 0])
        self.assertEqual(answers([0, 2, 1, 3, 0, 0, 0, 1, 0]), [1, 0, 1, -1, 1, 0])

    def test_a_list_without_begin_at_its_beginning(self):
        self.assertEqual(answers([1, 0, 2, 1, 1, 1, 4, 0, 24]), [1, 0, 1, 0, 2, 1, 1])

    def test_as_many_calls_as_may_be(self):
        calls = [0] + [1, 0] * 24 + [2, 1, 48] + [47] * 48 + [4, 0, 24] * 274
        self.assertEqual(answers(calls)[-6:], [2, 1, 47, 2, 1, 47])
        self.assertEqual(len(answers(calls)), 2 + 2 * 24 + 2 + 3 * 274)

    def test_what_is_handed_in_stays_as_it_was(self):
        calls = [0, 1, 0, 1, 0, 2, 1, 4, 3, 0, 3, 0, 2, 2, 1, 1, 3, 0, 1, 0, 4, 0, 24, 2, 5, 1, 0, 0]
        calls += [5, 6, 7, 0, 8, 0, 2, 1, 0, 5, 6, 7, 3, 8, 3, 7, -1, 8, 16777216]
        copy = list(calls)
        answers(calls)
        self.assertEqual(calls, copy)

    def test_an_answer_may_be_changed(self):
        calls = [0, 1, 0, 2, 1, 1, 1, 4, 0, 24]
        told = answers(calls)
        copy = list(told)
        told.clear()
        self.assertEqual(answers(calls), copy)

    def test_nothing_is_kept_from_one_time_to_the_next(self):
        calls = [1, 0, 2, 1, 1, 1, 4, 0, 24, 4, 1, 24]
        first = answers(calls)
        self.assertEqual(first, [1, 0, 1, 0, 2, 1, 1, 1, -1])
        self.assertEqual(answers(calls), first)
        self.assertEqual(answers([4, 0, 24]), [1, -1])
        self.assertEqual(answers([2, 1, 1, 1]), [1, -1])

    def test_an_empty_line_is_not_kept_from_one_time_to_the_next(self):
        proof = [0, 1, 0, 2, 1, 1, 0, 2, 2, 1, 1, 3, 0, 1, 0, 5, 6, 7, 1, 8, 1]
        first = answers(proof)
        self.assertEqual(first[-8:], [1, 1, 1, 2, 1, 1, 1, 2])
        self.assertEqual(answers([5, 6, 7, 1, 8, 1]), [1, 0, 1, -1, 1, -1, 1, -1])
        other = [0, 1, 1, 2, 1, 1, 0, 2, 1, 1, 1, 3, 0, 1, 0, 5, 6, 7, 1, 8, 1]
        self.assertEqual(answers(other)[-8:], [1, 1, 1, 2, 1, 1, 1, 1])
        self.assertEqual(answers(proof), first)

    def test_gives_back_a_list_of_whole_numbers(self):
        told = answers([0, 1, 0, 2, 1, 1, 1, 4, 0, 24, 3, 0, 0, 0, 2, 1, 0, 5, 6, 7, 0, 8, 0])
        self.assertIs(type(told), list)
        self.assertEqual({type(number) for number in told}, {int})


if __name__ == "__main__":
    unittest.main()
