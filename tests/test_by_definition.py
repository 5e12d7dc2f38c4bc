"""Each shape of move there is, held against the document's words worked out round by round."""

import random
import unittest

from lines import (
    FAR, MILLION_MILLION, after, all_powers, as_numbers, ask, at_least, both, commute, counters, far_power, far_values,
    first_round, form, form_by_definition, go, join, move, one_round, order, power, returns, round_by_round, shapes,
    together, turn, values, when,
)

ROUNDS = 20


def with_numbers(shape, chosen, numbers=(-99, -7, -1, 0, 0, 1, 2, 50, 99)):
    """A move of this shape, as pairs of whose value and the number."""
    return [(source, chosen.choice(numbers)) for source in shape]


def least(rounds):
    """The answer by the least n from 1 to 12 in whose place the first one comes again."""
    for n in range(1, 13):
        if rounds[n] == rounds[0]:
            return [1, n]
    return [0]


def told(n):
    return [0] if n is None else [1, n]


class ByDefinitionTest(unittest.TestCase):
    def each_shape(self, chosen):
        for count in (1, 2, 3, 4):
            for shape in shapes(count):
                yield count, shape, [chosen.randint(-10 ** 6, 10 ** 6) for counter in range(count)]

    def test_after_power_form(self):
        chosen = random.Random(1)
        for count, shape, held in self.each_shape(chosen):
            pairs = with_numbers(shape, chosen)
            powers = all_powers(pairs, 30)
            calls = [counters(count), move(1, *as_numbers(pairs)), values(*held)]
            expected = [[count], [0], [0]]
            for n, stepped in enumerate(round_by_round(pairs, held, ROUNDS)):
                calls += [after(1, n), power(1, n)]
                expected += [[0] + stepped, as_numbers(powers[n])]
            for counter in range(count):
                calls.append(form(1, counter))
                expected.append(form_by_definition(powers, counter))
            for n in (10 ** 6, MILLION_MILLION - 1, MILLION_MILLION):
                calls += [after(1, n), power(1, n)]
                expected += [[0] + far_values(pairs, held, n), as_numbers(far_power(pairs, n))]
            self.assertEqual(ask(*calls), expected)

    def check_together(self, one, other):
        ways = [together(one, other), together(other, one)]
        otherwise = [counter for counter in range(len(one)) if ways[0][counter] != ways[1][counter]]
        line = [counters(len(one)), move(0, *as_numbers(one)), move(1, *as_numbers(other))]
        joined = as_numbers(ways[0])
        answered = ask(*line, both(), commute(), join(), power(0, 1), power(1, 1))
        commutes = [0, otherwise[0]] if otherwise else [1]
        self.assertEqual(answered[3:], [joined, commutes, joined, joined, as_numbers(other)])

    def test_both_commute_join(self):
        chosen = random.Random(2)
        for count in (1, 2, 3, 4):
            every = list(shapes(count))
            for time in range(400):
                one = with_numbers(chosen.choice(every), chosen)
                other = with_numbers(chosen.choice(every), chosen)
                self.check_together(one, other)
                self.check_together(one, one)

    def check_order_and_returns(self, pairs, held):
        line = [counters(len(pairs)), move(0, *as_numbers(pairs)), values(*held), order(0), returns(0)]
        expected = [least(all_powers(pairs, 12)), least(round_by_round(pairs, held, 12))]
        self.assertEqual(ask(*line)[3:], expected, line)
        return expected

    def test_order_and_returns(self):
        chosen = random.Random(3)
        seen = set()
        for count, shape, held in self.each_shape(chosen):
            for numbers in ((0,), (-1, 1), (-1, 0, 1)):
                for time in range(4):
                    # Few different values, so that some come again.
                    held = [chosen.randint(0, 1) for counter in range(count)]
                    ordered, returned = self.check_order_and_returns(with_numbers(shape, chosen, numbers), held)
                    seen.add(("order", *ordered))
                    seen.add(("returns", *returned))
        # No more can come: no circles of 4 counters in all come again together only later than after 4 rounds.
        for name in ("order", "returns"):
            for answer in ((0,), (1, 1), (1, 2), (1, 3), (1, 4)):
                self.assertIn((name, *answer), seen)
        self.assertEqual(len(seen), 10)

    def test_turn(self):
        chosen = random.Random(4)
        for count, shape, held in self.each_shape(chosen):
            pairs = with_numbers(shape, chosen)
            line = [counters(count), move(0, *as_numbers(pairs)), values(*held)]
            answered = ask(*line, turn(0))[-1]
            if sorted(map(str, shape)) != [str(counter) for counter in range(count)]:
                self.assertEqual(answered, [0], shape)
                continue
            own = as_numbers([(counter, 0) for counter in range(count)])
            line.append(move(1, *answered[1:]))
            self.assertEqual(answered[0], 1)
            self.assertEqual(ask(*line, both(), commute())[-2:], [own, [1]])
            self.assertEqual(ask(*line, go(0, 1), go(1, 1))[-2:], [[0] + one_round(pairs, held), [0] + held])
            self.assertEqual(ask(*line, go(1, 7), go(0, 7))[-1], [0] + held)

    def check_first_rounds(self, pairs, held, wanted):
        rounds = round_by_round(pairs, held, 200)
        for counter in range(len(pairs)):
            calls = [counters(len(pairs)), move(0, *as_numbers(pairs)), values(*held)]
            expected = []
            for value in wanted:
                calls += [when(0, counter, value), at_least(0, counter, value)]
                for exact in (True, False):
                    expected.append(told(first_round(rounds, counter, value, exact)))
            self.assertEqual(ask(*calls)[3:], expected, calls)

    def test_when_and_at_least(self):
        chosen = random.Random(5)
        for count, shape, held in self.each_shape(chosen):
            near = [chosen.randint(-9, 9) for counter in range(count)]
            self.check_first_rounds(with_numbers(shape, chosen, range(-3, 4)), near, range(-12, 13, 3))
            pairs = with_numbers(shape, chosen)
            far = chosen.choice(far_values(pairs, held, chosen.randint(0, 10 ** 15)))
            self.check_first_rounds(pairs, held, (-FAR, FAR, far, far + 1, chosen.choice(held)))

    def test_go(self):
        chosen = random.Random(6)
        for count, shape, held in self.each_shape(chosen):
            pairs = with_numbers(shape, chosen)
            for n in (0, 1, chosen.randint(2, 40), chosen.randint(10 ** 9, 10 ** 11), MILLION_MILLION):
                line = [counters(count), move(1, *as_numbers(pairs)), values(*held), go(1, n), after(0, 0)]
                reached = far_values(pairs, held, n)
                expected = [[0] + reached, [0] + reached]
                if max(map(abs, reached)) > MILLION_MILLION:
                    expected = [[-7], [0] + held]
                self.assertEqual(ask(*line)[3:], expected, line)


if __name__ == "__main__":
    unittest.main()
