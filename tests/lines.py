"""What the tests share: writes calls as the numbers they are handed in by, reads the answers back, and works out
slowly what they should be."""

import itertools
import unittest

from manyrounds.rounds import answers

MILLION_MILLION = 10 ** 12
FAR = 10 ** 18


def counters(n):
    return [0, n]


def move(which, *numbers):
    return [1, which, len(numbers), *numbers]


def values(*numbers):
    return [2, len(numbers), *numbers]


def after(which, n):
    return [3, which, n]


def power(which, n):
    return [4, which, n]


def form(which, counter):
    return [5, which, counter]


def both():
    return [6]


def commute():
    return [7]


def order(which):
    return [8, which]


def turn(which):
    return [9, which]


def returns(which):
    return [10, which]


def when(which, counter, value):
    return [11, which, counter, value]


def at_least(which, counter, value):
    return [12, which, counter, value]


def join():
    return [13]


def go(which, n):
    return [14, which, n]


def written(calls):
    """All calls behind one another, as the one list that is handed in."""
    return [number for call in calls for number in call]


def ask(*calls):
    """The answers to a line of calls, one list each."""
    given_back = answers(written(calls))
    if type(given_back) is not list or any(type(number) is not int for number in given_back):
        raise AssertionError(f"not a list of whole numbers: {given_back!r}")
    split = []
    place = 0
    while place < len(given_back):
        end = place + 1 + given_back[place]
        split.append(given_back[place + 1:end])
        place = end
    if place != len(given_back) or len(split) != len(calls):
        raise AssertionError(f"{len(calls)} calls aren't answered by {given_back!r}")
    return split


def last(*calls):
    """The answer to the last of the calls."""
    return ask(*calls)[-1]


def everything(count):
    """Calls that together show all that an object with count counters holds."""
    calls = [after(0, 0), power(0, 1), power(1, 1)]
    # A counter that there isn't is refused: so the number of counters shows, too.
    return calls + [form(0, count - 1), form(0, count)]


# Something that isn't as at first, with so many counters.
CHANGED = {
    1: [counters(1), move(0, 0, 5), move(1, 1, 0, 6), values(7)],
    2: [counters(2), move(0, 1, 1, 3, 1, 0, 0), move(1, 1, 0, 5, 0, 7), values(10, 20)],
    3: [counters(3), move(0, 1, 1, 1, 1, 2, 2, 0, 3), move(1, 0, 1, 0, 2, 1, 0, 3), values(1, 2, 3)],
    4: [counters(4), move(0, 1, 1, 1, 1, 2, 2, 1, 3, 3, 0, 4), move(1, 0, 1, 0, 2, 0, 3, 1, 3, 4), values(1, 2, 3, 4)],
}


class RefusalCase(unittest.TestCase):
    def refused(self, number, call, count):
        """The call is refused by this number alone, and all is as before."""
        self.refused_behind(CHANGED[count], number, call, count)

    def refused_behind(self, line, number, call, count):
        """The same, behind a line that leaves count counters."""
        shown = everything(count)
        before = ask(*line, *shown)[-len(shown):]
        behind = ask(*line, call, *shown)
        self.assertEqual(behind[len(line)], [number], call)
        self.assertEqual(behind[-len(shown):], before, call)


# What follows works out the document's words slowly, round by round. A move is a list of pairs here: whose
# value a counter is given, None for a number alone, and the number.

# So far apart that a sum shows whose value is in it.
APART = 10 ** 20


def shapes(count):
    """For each move of count counters whose value each counter is given; None for a number alone."""
    return itertools.product([None, *range(count)], repeat=count)


def as_numbers(pairs):
    numbers = []
    for source, number in pairs:
        numbers += [0, number] if source is None else [1, source, number]
    return numbers


def one_round(pairs, held):
    return [number if source is None else held[source] + number for source, number in pairs]


def round_by_round(pairs, held, most):
    """The values after 0 to most rounds."""
    rounds = [held]
    for n in range(most):
        rounds.append(one_round(pairs, rounds[-1]))
    return rounds


def far_apart(count):
    return [APART * (place + 1) for place in range(count)]


def read_back(held):
    """The move that has led to these values from those far apart on."""
    pairs = []
    for value in held:
        place = (value + APART // 2) // APART
        pairs.append((None if place == 0 else place - 1, value - APART * place))
    return pairs


def together(one, other):
    return read_back(one_round(other, one_round(one, far_apart(len(one)))))


def all_powers(pairs, most):
    """Powers 0 to most."""
    return [read_back(held) for held in round_by_round(pairs, far_apart(len(pairs)), most)]


def form_holds(column, t, p):
    """The amount d, if t and p are those of a form, as far as the powers are looked at; else None."""
    amounts = {later[1] - earlier[1] for earlier, later in zip(column[t:], column[t + p:])}
    same = all(later[0] == earlier[0] for earlier, later in zip(column[t:], column[t + p:]))
    return amounts.pop() if same and len(amounts) == 1 else None


def form_by_definition(powers, counter):
    column = [given[counter] for given in powers]
    for t in range(5):
        for p in range(1, 5):
            d = form_holds(column, t, p)
            if d is not None:
                return [t, p, d] + as_numbers(column[:t + p])
    raise AssertionError(f"no form: {column!r}")


def far_values(pairs, held, n):
    """The values after n rounds: from round 4 on, 12 rounds more add a steady amount, whatever the circles are."""
    rounds = round_by_round(pairs, held, 28)
    if n < 16:
        return rounds[n]
    times, rest = divmod(n - 4, 12)
    return [early + times * (late - early) for early, late in zip(rounds[4 + rest], rounds[16 + rest])]


def far_power(pairs, n):
    return read_back(far_values(pairs, far_apart(len(pairs)), n))


def first_of_twelves(early, late, value, exact):
    """How many times late - early is added to early until it's the value, or at least it; None for never."""
    missing, more = value - early, late - early
    if missing == 0 or missing < 0 and not exact:
        return 0
    if more == 0 or missing * more < 0 or exact and missing % more:
        return None
    return -(-abs(missing) // abs(more))


def first_round(rounds, counter, value, exact):
    """The least n after which the counter has the value, or at least it; None if there's none.

    rounds are the values round by round, at least 28 of them; only what comes behind them is worked out.
    """
    column = [stepped[counter] for stepped in rounds]
    for n, stepped in enumerate(column):
        if stepped == value or stepped > value and not exact:
            return n
    found = []
    for n in range(4, 16):
        times = first_of_twelves(column[n], column[n + 12], value, exact)
        if times is not None:
            found.append(n + 12 * times)
    return min(found, default=None)
