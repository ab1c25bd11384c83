"""Whole proofs: what wrong and blame answer is held against what the lines say."""

import itertools
import random
import unittest

from tests.helper import blame, empty, given, letter, line, run, step, width, wrong

LETTERS = 6
SEEDS = range(40)


def is_wrong(signs, v):
    """None of the signs is right: 2x where bit x is 1, 2x + 1 where it's 0."""
    return not any((v >> (sign // 2)) % 2 != sign % 2 for sign in signs)


class Model:
    """A proof kept in the plainest way, to hold the program against."""

    def __init__(self, seed):
        self.source = random.Random(seed)
        self.sides = [0, 0, 1, 2] + [self.source.randrange(3) for turn in range(LETTERS - 4)]
        self.source.shuffle(self.sides)
        self.lines = []
        self.origins = []
        for turn in range(self.source.randrange(12, 20)):
            self.give()

    def give(self):
        giver = self.source.choice((1, 2))
        known = [x for x in range(LETTERS) if self.sides[x] in (0, giver)]
        chosen = self.source.sample(known, self.source.randrange(1, min(3, len(known)) + 1))
        self.lines.append({2 * x + self.source.randrange(2) for x in chosen})
        self.origins.append((giver,))

    def steps(self):
        """All steps that come to a line that isn't there yet."""
        found = []
        for i, j in itertools.permutations(range(len(self.lines)), 2):
            for x in range(LETTERS):
                if 2 * x in self.lines[i] and 2 * x + 1 in self.lines[j]:
                    signs = (self.lines[i] - {2 * x}) | (self.lines[j] - {2 * x + 1})
                    if signs not in self.lines and not any(sign ^ 1 in signs for sign in signs):
                        found.append((i, j, x, signs))
        return found

    def go_on(self):
        """Steps until a line has no signs, and some lines behind it; tells whether there is one."""
        while set() not in self.lines and len(self.lines) < 60:
            found = self.steps()
            if not found:
                return False
            i, j, x, signs = self.source.choice(found)
            self.lines.append(signs)
            self.origins.append((i, j, x))
        self.behind = len(self.lines)
        for turn in range(3):
            self.give()
        return set() in self.lines

    def calls(self):
        calls = [[0]] + [letter(side) for side in self.sides]
        for signs, origin in zip(self.lines, self.origins):
            calls.append(given(origin[0], *signs) if len(origin) == 1 else step(*origin))
        return calls

    def blamed(self, k, v):
        """The words of the document, one by one."""
        if len(self.origins[k]) == 1:
            return self.origins[k][0]
        i, j, x = self.origins[k]
        two = (self.blamed(i, v), self.blamed(j, v))
        if self.sides[x] == 1:
            return 2 if 2 in two else 1
        if self.sides[x] == 2:
            return 2 if two == (2, 2) else 1
        return two[1] if v & 2 ** x else two[0]

    def holds(self, side, v):
        """Whether this side can be right where the letters that both know are as v tells."""
        known = sum(2 ** x for x in range(LETTERS) if self.sides[x] == 0)
        said = [signs for signs, origin in zip(self.lines[:self.behind], self.origins) if origin == (side,)]
        for other in range(2 ** LETTERS):
            if other & known == v & known and not any(is_wrong(signs, other) for signs in said):
                return True
        return False


class Whole(unittest.TestCase):
    @classmethod
    def setUpClass(cls):
        models = [Model(seed) for seed in SEEDS]
        cls.models = [model for model in models if model.go_on()]

    def test_there_are_enough(self):
        self.assertGreater(len(self.models), 12)
        used = {model.sides[origin[2]] for model in self.models for origin in model.origins if len(origin) == 3}
        self.assertEqual(used, {0, 1, 2})

    def test_lines_width_and_empty(self):
        for model in self.models:
            calls = model.calls()
            probes = [line(k, 24) for k in range(len(model.lines))] + [width(), empty()]
            told = run(calls + probes)[len(calls):]
            lines = [[len(signs)] + sorted(signs) for signs in model.lines]
            longest = max(len(signs) for signs in model.lines)
            self.assertEqual(told, lines + [[longest], [model.lines.index(set())]])

    def test_the_line_come_to_is_given_and_wrong(self):
        for model in self.models:
            calls = model.calls()
            told = run(calls + [wrong(v) for v in range(2 ** LETTERS)])[len(calls):]
            for v, answer in enumerate(told):
                k = answer[0]
                self.assertIn(k, range(model.behind))
                self.assertEqual(len(model.origins[k]), 1)
                self.assertTrue(is_wrong(model.lines[k], v), (model.lines[k], v))

    def test_blame_as_the_words_say(self):
        for model in self.models:
            calls = model.calls()
            told = run(calls + [blame(v) for v in range(2 ** LETTERS)])[len(calls):]
            k = model.lines.index(set())
            self.assertEqual(told, [[model.blamed(k, v)] for v in range(2 ** LETTERS)])

    def test_the_side_that_is_blamed_can_not_be_right(self):
        for model in self.models:
            calls = model.calls()
            told = run(calls + [blame(v) for v in range(2 ** LETTERS)])[len(calls):]
            for v, answer in enumerate(told):
                self.assertFalse(model.holds(answer[0], v), (answer, v))


if __name__ == "__main__":
    unittest.main()
