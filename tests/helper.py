"""Builds lists of calls, and parts the list of answers into one list a call."""

from blameline.desk import answers

LOWEST = -2147483648
HIGHEST = 2147483647
ALL_TRUE = 2 ** 24 - 1


def begin():
    return [0]


def letter(side):
    return [1, side]


def given(side, *signs):
    return [2, side, len(signs), *signs]


def step(i, j, x):
    return [3, i, j, x]


def line(k, most):
    return [4, k, most]


def width():
    return [5]


def empty():
    return [6]


def wrong(v):
    return [7, v]


def blame(v):
    return [8, v]


def joined(calls):
    return [number for call in calls for number in call]


def part(told):
    parts = []
    place = 0
    while place < len(told):
        count = told[place]
        answer = told[place + 1:place + 1 + count]
        if count < 1 or len(answer) != count:
            raise AssertionError(f"a wrong count at {place} of {told}")
        parts.append(answer)
        place += 1 + count
    return parts


def run(calls):
    """The answers to these calls, each a list, as many as there are calls."""
    numbers = joined(calls)
    if len(calls) > 300 or len(numbers) > 30000:
        raise AssertionError("more calls than may be handed in")
    parts = part(answers(numbers))
    if len(parts) != len(calls):
        raise AssertionError(f"{len(calls)} calls, {len(parts)} answers")
    for answer in parts:
        for number in answer:
            if type(number) is not int:
                raise AssertionError(f"{number!r} is no whole number")
    return parts


def last(calls):
    """The answer to the last of these calls."""
    return run(calls)[-1]


def check_refused(case, before, call, number, lines_shown=range(6)):
    """The call behind `before` is refused with `number`, and all that can be seen is as it was."""
    probes = [line(k, 24) for k in lines_shown]
    probes += [width(), empty(), wrong(0), blame(0)]
    probes += [given(1), letter(0), letter(1), letter(2)]
    # Whose own a letter is shows by who may speak of it.
    probes += [given(side, 2 * x) for side in (1, 2) for x in range(6)]
    as_it_was = run(before + probes)
    after = run(before + [call] + probes)
    case.assertEqual(after[len(before)], [number], call)
    case.assertEqual(after[:len(before)] + after[len(before) + 1:], as_it_was, call)
