"""A proof: the letters and the lines of it, each line checked before it is kept."""

from blameline.lines import Given, Step, has_both_signs, without

MOST_LETTERS = 24
MOST_LINES = 256
MOST_GIVEN_SIGNS = 48
MOST_SHOWN_SIGNS = 24
# The number in which each of the 24 letters is told to be true.
ALL_TRUE = 16777215

REFUSED = -1
FULL = -2
CLASH = -3


class Proof:
    """Letters are kept as their sides; a step's two lines always stand before it."""

    def __init__(self):
        self.sides = []
        self.lines = []

    def begin(self):
        self.sides = []
        self.lines = []
        return 0

    def add_letter(self, side):
        if side < 0 or side > 2:
            return REFUSED
        if len(self.sides) == MOST_LETTERS:
            return FULL
        self.sides.append(side)
        return len(self.sides) - 1

    def add_given(self, side, signs):
        """Signs may come in any order, and any of them more than once."""
        if side != 1 and side != 2:
            return REFUSED
        if len(signs) > MOST_GIVEN_SIGNS:
            return REFUSED
        if not all([self.may_say(side, sign) for sign in signs]):
            return REFUSED
        if has_both_signs(signs):
            return REFUSED
        return self.add_line(Given(side, signs))

    def add_step(self, i, j, x):
        if not self.is_step(i, j, x):
            return REFUSED
        signs = without(self.lines[i].signs, 2 * x) + without(self.lines[j].signs, 2 * x + 1)
        if has_both_signs(signs):
            return CLASH
        return self.add_line(Step(i, j, x, signs))

    def show_line(self, k, most):
        """The number that is answered, and behind it the signs that are told."""
        if not self.has_line(k):
            return [REFUSED]
        signs = self.lines[k].signs
        if most < 1 or most > MOST_SHOWN_SIGNS:
            return [len(signs)]
        return [len(signs)] + signs[:most]

    def width(self):
        return max([len(line.signs) for line in self.lines], default=0)

    def first_empty(self):
        for k in range(len(self.lines)):
            if len(self.lines[k].signs) == 0:
                return k
        return REFUSED

    def wrong_given(self, v):
        if not self.can_tell(v):
            return REFUSED
        # Each line come to is wrong, and stands before the one that it's come to from.
        k = self.first_empty()
        while isinstance(self.lines[k], Step):
            k = self.lines[k].next_line(v)
        return k

    def blamed_side(self, v):
        if not self.can_tell(v):
            return REFUSED
        # Line by line, not from the empty line back: a line may be used many times over.
        blamed = []
        for line in self.lines[:self.first_empty() + 1]:
            blamed.append(self.blamed_by(line, blamed, v))
        return blamed[-1]

    def has_letter(self, x):
        return 0 <= x < len(self.sides)

    def has_line(self, k):
        return 0 <= k < len(self.lines)

    def may_say(self, side, sign):
        x = sign // 2
        return self.has_letter(x) and self.sides[x] in (0, side)

    def is_step(self, i, j, x):
        if not (self.has_line(i) and self.has_line(j) and self.has_letter(x)):
            return False
        return 2 * x in self.lines[i].signs and 2 * x + 1 in self.lines[j].signs

    def add_line(self, line):
        """Keeps a line that has been found good."""
        if len(self.lines) == MOST_LINES:
            return FULL
        self.lines.append(line)
        return len(self.lines) - 1

    def can_tell(self, v):
        return self.first_empty() != REFUSED and 0 <= v <= ALL_TRUE

    def blamed_by(self, line, blamed, v):
        """The side that this line blames; `blamed` holds the sides that the lines before it blame."""
        if isinstance(line, Given):
            return line.side
        if self.sides[line.x] == 0:
            return blamed[line.next_line(v)]
        # Of the sides 1 and 2 the greater is the second if one is, the lesser if both are.
        if self.sides[line.x] == 1:
            return max(blamed[line.i], blamed[line.j])
        return min(blamed[line.i], blamed[line.j])
