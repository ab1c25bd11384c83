"""The two kinds of lines, given and step, and what can be said of signs and letters alone."""


def has_both_signs(signs):
    # The two signs of a letter, 2x and 2x + 1, differ in the last bit alone.
    return any([(sign ^ 1) in signs for sign in signs])


def without(signs, left_out):
    return [sign for sign in signs if sign != left_out]


def is_true(x, v):
    return ((v >> x) & 1) == 1


class Given:
    """A line that a side gave; its signs are kept once each, the least first."""

    def __init__(self, side, signs):
        self.side = side
        self.signs = sorted(set(signs))


class Step:
    """The step from lines i and j on letter x; its signs are kept as those of a given line."""

    def __init__(self, i, j, x, signs):
        self.i = i
        self.j = j
        self.x = x
        self.signs = sorted(set(signs))

    def next_line(self, v):
        """Of lines i and j the one in which the sign of letter x isn't right."""
        return self.j if is_true(self.x, v) else self.i
