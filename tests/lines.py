"""What the tests share: writes calls as the numbers they are handed in by, and reads the answers back."""

import unittest

from manyrounds.rounds import answers

MILLION_MILLION = 10 ** 12
FAR = 10 ** 18


def counters(n):
    return [0, n]


def move(which, *numbers):
    return [1, which, len(numbers), *numbers]


def values(*numbers):
    return [2, len(numbers), *numbers]


def after(which, n):
    return [3, which, n]


def power(which, n):
    return [4, which, n]


def form(which, counter):
    return [5, which, counter]


def both():
    return [6]


def commute():
    return [7]


def written(calls):
    """All calls behind one another, as the one list that is handed in."""
    return [number for call in calls for number in call]


def ask(*calls):
    """The answers to a line of calls, one list each."""
    given_back = answers(written(calls))
    if type(given_back) is not list or any(type(number) is not int for number in given_back):
        raise AssertionError(f"not a list of whole numbers: {given_back!r}")
    split = []
    place = 0
    while place < len(given_back):
        end = place + 1 + given_back[place]
        split.append(given_back[place + 1:end])
        place = end
    if place != len(given_back) or len(split) != len(calls):
        raise AssertionError(f"{len(calls)} calls aren't answered by {given_back!r}")
    return split


def last(*calls):
    """The answer to the last of the calls."""
    return ask(*calls)[-1]


def everything(count):
    """Calls that together show all that an object with count counters holds."""
    calls = [after(0, 0), power(0, 1), power(1, 1)]
    # A counter that there isn't is refused: so the number of counters shows, too.
    return calls + [form(0, count - 1), form(0, count)]


# Something that isn't as at first, with so many counters.
CHANGED = {
    1: [counters(1), move(0, 0, 5), move(1, 1, 0, 6), values(7)],
    2: [counters(2), move(0, 1, 1, 3, 1, 0, 0), move(1, 1, 0, 5, 0, 7), values(10, 20)],
    3: [counters(3), move(0, 1, 1, 1, 1, 2, 2, 0, 3), move(1, 0, 1, 0, 2, 1, 0, 3), values(1, 2, 3)],
    4: [counters(4), move(0, 1, 1, 1, 1, 2, 2, 1, 3, 3, 0, 4), move(1, 0, 1, 0, 2, 0, 3, 1, 3, 4), values(1, 2, 3, 4)],
}


class RefusalCase(unittest.TestCase):
    def refused(self, number, call, count):
        """The call is refused by this number alone, and all is as before."""
        shown = everything(count)
        before = ask(*CHANGED[count], *shown)[-len(shown):]
        behind = ask(*CHANGED[count], call, *shown)
        self.assertEqual(behind[len(CHANGED[count])], [number], call)
        self.assertEqual(behind[-len(shown):], before, call)
