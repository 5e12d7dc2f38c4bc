"""Lists of 100 calls in any order, held against an object that does what the document says slowly."""

import random
import unittest

from lines import (
    FAR, MILLION_MILLION, all_powers, as_numbers, ask, far_power, far_values, first_round, form_by_definition,
    round_by_round, together,
)

# Rarely one of these stands in a number's place, whatever it is.
EDGES = (-FAR, -1000001, -1000000, -100, -99, -1, 99, 100, 1000000, 1000001, MILLION_MILLION + 1, FAR)
RARE = 12


def as_pairs(numbers, count):
    """The move of count counters that the numbers are, as pairs; None if they're none."""
    if count == 0:
        return [] if not numbers else None
    if numbers[:1] == [0] and len(numbers) >= 2:
        length, pair = 2, (None, numbers[1])
    elif numbers[:1] == [1] and len(numbers) >= 3:
        length, pair = 3, (numbers[1], numbers[2])
    else:
        return None
    rest = as_pairs(numbers[length:], count - 1)
    return None if rest is None or abs(pair[1]) > 99 else [pair] + rest


class Slow:
    """An object, each of whose calls is worked out by the document's words."""

    def __init__(self):
        self.answer_0(1)

    def answer(self, call):
        """The answer to a call, as it is handed in."""
        if call[0] == 1:
            return self.answer_1(call[1], call[3:])
        if call[0] == 2:
            return self.answer_2(call[2:])
        return getattr(self, f"answer_{call[0]}")(*call[1:])

    def without_move(self, which):
        return [-2] if which not in (0, 1) else None

    def without_rounds(self, which, n):
        return self.without_move(which) or ([-4] if n < 0 or n > MILLION_MILLION else None)

    def without_counter(self, which, counter):
        return self.without_move(which) or ([-3] if counter not in range(len(self.held)) else None)

    def answer_0(self, n):
        if n not in (1, 2, 3, 4):
            return [-1]
        self.held = [0] * n
        self.moves = [[(counter, 0) for counter in range(n)] for which in (0, 1)]
        return [n]

    def answer_1(self, which, numbers):
        count = len(self.held)
        pairs = as_pairs(numbers, count)
        good = pairs is not None and all(source in (None, *range(count)) for source, number in pairs)
        if self.without_move(which) or not good:
            return self.without_move(which) or [-1]
        self.moves[which] = pairs
        return [0]

    def answer_2(self, numbers):
        if len(numbers) != len(self.held) or any(abs(number) > 1000000 for number in numbers):
            return [-1]
        self.held = numbers
        return [0]

    def answer_3(self, which, n):
        return self.without_rounds(which, n) or [0] + far_values(self.moves[which], self.held, n)

    def answer_4(self, which, n):
        return self.without_rounds(which, n) or as_numbers(far_power(self.moves[which], n))

    def answer_5(self, which, counter):
        refusal = self.without_counter(which, counter)
        return refusal or form_by_definition(all_powers(self.moves[which], 30), counter)

    def answer_6(self):
        return as_numbers(together(*self.moves))

    def answer_7(self):
        one, other = together(*self.moves), together(*reversed(self.moves))
        return [1] if one == other else [0, [given == other[n] for n, given in enumerate(one)].index(False)]

    def least(self, rounds):
        return [1, rounds.index(rounds[0], 1)] if rounds[0] in rounds[1:] else [0]

    def answer_8(self, which):
        return self.without_move(which) or self.least(all_powers(self.moves[which], 12))

    def answer_9(self, which):
        if self.without_move(which):
            return self.without_move(which)
        count = len(self.held)
        if {source for source, number in self.moves[which]} != set(range(count)):
            return [0]
        given_to = {source: (counter, -number) for counter, (source, number) in enumerate(self.moves[which])}
        return [1] + as_numbers([given_to[counter] for counter in range(count)])

    def answer_10(self, which):
        return self.without_move(which) or self.least(round_by_round(self.moves[which], self.held, 12))

    def first(self, which, counter, value, exact):
        refusal = self.without_counter(which, counter)
        if refusal:
            return refusal
        n = first_round(round_by_round(self.moves[which], self.held, 100), counter, value, exact)
        return [0] if n is None else [1, n]

    def answer_11(self, which, counter, value):
        return self.first(which, counter, value, True)

    def answer_12(self, which, counter, value):
        return self.first(which, counter, value, False)

    def answer_13(self):
        # 100 calls don't bring a number near 1000000: no refusal comes here.
        self.moves[0] = together(*self.moves)
        return as_numbers(self.moves[0])

    def answer_14(self, which, n):
        if self.without_rounds(which, n):
            return self.without_rounds(which, n)
        reached = far_values(self.moves[which], self.held, n)
        if any(abs(value) > MILLION_MILLION for value in reached):
            return [-7]
        self.held = reached
        return [0] + reached


class Chance:
    """Calls by chance, most of them such as aren't refused."""

    def __init__(self, seed):
        self.chosen = random.Random(seed)

    def rarely(self):
        return self.chosen.randrange(RARE) == 0

    def number(self, low, high):
        return self.chosen.choice(EDGES) if self.rarely() else self.chosen.randint(low, high)

    def rounds(self):
        few, many = self.number(0, 40), self.number(0, MILLION_MILLION)
        return self.chosen.choice([few, few, few, many, MILLION_MILLION])

    def move(self, count):
        numbers = []
        for counter in range(count + self.rarely()):
            alone = self.chosen.randrange(6) == 0
            numbers += [0, self.number(-9, 9)] if alone else [1, self.number(0, count - 1), self.number(-9, 9)]
        return numbers[:-1] if self.rarely() else numbers

    def held(self, count):
        return [self.number(-30, 30) for counter in range(count + self.rarely())]

    def value(self, slow):
        near = self.chosen.choice(slow.held) + self.chosen.randint(-60, 60)
        return self.chosen.choice([near, near, near, self.number(-200, 200), self.number(-FAR, FAR)])

    def call(self, slow):
        """A call that suits the object as it is now."""
        count = len(slow.held)
        kind = self.chosen.randrange(15)
        if kind == 0:
            # Mostly another call instead: else no line would hold values and moves for long.
            return [0, self.number(0, 5)] if self.rarely() else self.call(slow)
        which = self.number(0, 1)
        if kind == 1:
            numbers = self.move(count)
            return [1, which, len(numbers), *numbers]
        if kind == 2:
            numbers = self.held(count)
            return [2, len(numbers), *numbers]
        if kind in (3, 4, 14):
            return [kind, which, self.rounds()]
        if kind == 5:
            return [kind, which, self.number(0, count - 1)]
        if kind in (11, 12):
            return [kind, which, self.number(0, count - 1), self.value(slow)]
        return [kind] if kind in (6, 7, 13) else [kind, which]


class HundredTest(unittest.TestCase):
    def test_lines_by_chance(self):
        seen = set()
        for seed in range(60):
            chance = Chance(seed)
            slow = Slow()
            calls = [[0, 1 + seed % 4]] if seed % 5 else [chance.call(slow)]
            expected = [slow.answer(calls[0])]
            while len(calls) < 100:
                calls.append(chance.call(slow))
                expected.append(slow.answer(calls[-1]))
            answered = ask(*calls)
            for call, answer, wanted in zip(calls, answered, expected):
                self.assertEqual(answer, wanted, (seed, call))
                seen.add((call[0], min(answer[0], 1)))
        # Each refusal that can come in 100 calls has come, and what isn't refused, too.
        refusals = {(0, -1), (1, -1), (1, -2), (2, -1), (14, -7)}
        refusals |= {(kind, -2) for kind in (3, 4, 5, 8, 9, 10, 11, 12, 14)}
        refusals |= {(kind, -4) for kind in (3, 4, 14)} | {(kind, -3) for kind in (5, 11, 12)}
        self.assertEqual({one for one in seen if one[1] < 0}, refusals)
        either = {(kind, first) for kind in (7, 8, 9, 10, 11, 12) for first in (0, 1)}
        self.assertEqual(either - seen, set())
        self.assertEqual(sorted({kind for kind, first in seen if first >= 0}), list(range(15)))


if __name__ == "__main__":
    unittest.main()
