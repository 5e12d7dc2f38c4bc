"""Each shape of move there is, held against the document's words worked out round by round."""

import itertools
import random
import unittest

from lines import MILLION_MILLION, after, ask, both, commute, counters, form, move, power, values

ROUNDS = 24


def shapes(count):
    """For each move of count counters whose value each counter is given; None for a number alone."""
    return itertools.product([None, *range(count)], repeat=count)


def with_numbers(shape, chosen):
    """A move of this shape, as pairs of whose value and the number."""
    return [(source, chosen.choice([-99, -7, -1, 0, 0, 1, 2, 50, 99])) for source in shape]


def as_numbers(pairs):
    numbers = []
    for source, number in pairs:
        numbers += [0, number] if source is None else [1, source, number]
    return numbers


def one_round(pairs, held):
    return [number if source is None else held[source] + number for source, number in pairs]


def all_powers(pairs, most):
    """Powers 0 to most, told by doing rounds with values that are so far apart that each shows whose it is."""
    apart = 10 ** 6
    held = [apart * (place + 1) for place in range(len(pairs))]
    powers = []
    for n in range(most + 1):
        powers.append([read_back(value, apart) for value in held])
        held = one_round(pairs, held)
    return powers


def read_back(value, apart):
    place = (value + apart // 2) // apart
    return (None if place == 0 else place - 1, value - apart * place)


def holds(column, t, p):
    """The amount d, if t and p are those of a form, as far as the powers are looked at; else None."""
    amounts = {later[1] - earlier[1] for earlier, later in zip(column[t:], column[t + p:])}
    same = all(later[0] == earlier[0] for earlier, later in zip(column[t:], column[t + p:]))
    return amounts.pop() if same and len(amounts) == 1 else None


def form_by_definition(powers, counter):
    column = [given[counter] for given in powers]
    for t in range(5):
        for p in range(1, 5):
            d = holds(column, t, p)
            if d is not None:
                return [t, p, d] + as_numbers(column[:t + p])
    raise AssertionError(f"no form: {column!r}")


def far_power(powers, n):
    """Power n, by those from 4 on, which come again after 12 rounds with a steady amount more."""
    times, rest = divmod(n - 4, 12)
    early = powers[4 + rest]
    steady = [later[1] - earlier[1] for earlier, later in zip(early, powers[16 + rest])]
    return [(source, number + times * amount) for (source, number), amount in zip(early, steady)]


class ByDefinitionTest(unittest.TestCase):
    def check_alone(self, pairs, held):
        count = len(pairs)
        powers = all_powers(pairs, 30)
        calls = [counters(count), move(1, *as_numbers(pairs)), values(*held)]
        expected = [[count], [0], [0]]
        stepped = held
        for n in range(ROUNDS):
            calls += [after(1, n), power(1, n)]
            expected += [[0] + stepped, as_numbers(powers[n])]
            stepped = one_round(pairs, stepped)
        for counter in range(count):
            calls.append(form(1, counter))
            expected.append(form_by_definition(powers, counter))
        for n in (10 ** 6, MILLION_MILLION - 1, MILLION_MILLION):
            calls += [after(1, n), power(1, n)]
            far = far_power(powers, n)
            expected += [[0] + one_round(far, held), as_numbers(far)]
        self.assertEqual(ask(*calls), expected)

    def test_each_shape(self):
        chosen = random.Random(1)
        for count in (1, 2, 3, 4):
            for shape in shapes(count):
                held = [chosen.randint(-10 ** 6, 10 ** 6) for counter in range(count)]
                self.check_alone(with_numbers(shape, chosen), held)

    def check_together(self, one, other):
        ways = []
        for first, second in ((one, other), (other, one)):
            held = [10 ** 6 * (place + 1) for place in range(len(first))]
            ways.append([read_back(value, 10 ** 6) for value in one_round(second, one_round(first, held))])
        otherwise = [counter for counter in range(len(one)) if ways[0][counter] != ways[1][counter]]
        answered = ask(counters(len(one)), move(0, *as_numbers(one)), move(1, *as_numbers(other)), both(), commute())
        self.assertEqual(answered[-2:], [as_numbers(ways[0]), [0, otherwise[0]] if otherwise else [1]])

    def test_two_together(self):
        chosen = random.Random(2)
        for count in (1, 2, 3, 4):
            every = list(shapes(count))
            for turn in range(400):
                one = with_numbers(chosen.choice(every), chosen)
                other = with_numbers(chosen.choice(every), chosen)
                self.check_together(one, other)
                self.check_together(one, one)


if __name__ == "__main__":
    unittest.main()
