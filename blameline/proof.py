"""A proof: the letters and the lines of it, each line checked before it is kept."""

MOST_LETTERS = 24
MOST_LINES = 256
MOST_GIVEN_SIGNS = 48
MOST_SHOWN_SIGNS = 24

WRONG = -1
FULL = -2
CLASH = -3


def has_both_signs(signs):
    # The two signs of a letter, 2x and 2x + 1, differ in the last bit alone.
    return any([(sign ^ 1) in signs for sign in signs])


def without(signs, left_out):
    return [sign for sign in signs if sign != left_out]


class Proof:
    """Letters are kept as their sides, lines as lists of their signs, the least first."""

    def __init__(self):
        self.sides = []
        self.lines = []

    def begin(self):
        self.sides = []
        self.lines = []
        return 0

    def add_letter(self, side):
        if side < 0 or side > 2:
            return WRONG
        if len(self.sides) == MOST_LETTERS:
            return FULL
        self.sides.append(side)
        return len(self.sides) - 1

    def add_given(self, side, signs):
        if side != 1 and side != 2:
            return WRONG
        if len(signs) > MOST_GIVEN_SIGNS:
            return WRONG
        if not all([self.may_say(side, sign) for sign in signs]):
            return WRONG
        if has_both_signs(signs):
            return WRONG
        return self.add_line(signs)

    def add_step(self, i, j, x):
        if not self.is_step(i, j, x):
            return WRONG
        signs = without(self.lines[i], 2 * x) + without(self.lines[j], 2 * x + 1)
        if has_both_signs(signs):
            return CLASH
        return self.add_line(signs)

    def show_line(self, k, most):
        """The number that is answered, and behind it the signs that are told."""
        if not self.has_line(k):
            return [WRONG]
        signs = self.lines[k]
        if most < 1 or most > MOST_SHOWN_SIGNS:
            return [len(signs)]
        return [len(signs)] + signs[:most]

    def has_letter(self, x):
        return 0 <= x < len(self.sides)

    def has_line(self, k):
        return 0 <= k < len(self.lines)

    def may_say(self, side, sign):
        x = sign // 2
        return self.has_letter(x) and self.sides[x] in (0, side)

    def is_step(self, i, j, x):
        if not (self.has_line(i) and self.has_line(j) and self.has_letter(x)):
            return False
        return 2 * x in self.lines[i] and 2 * x + 1 in self.lines[j]

    def add_line(self, signs):
        """Keeps a line that has been found good; signs may come in any order and more than once."""
        if len(self.lines) == MOST_LINES:
            return FULL
        self.lines.append(sorted(set(signs)))
        return len(self.lines) - 1
