"""join: what it answers, and point 3.

Each join adds at most 99 to a number, so 100 calls don't bring one near 1000000. The tests of that edge hand in
longer lists, which the program takes like others.
"""

import unittest

from lines import (
    FAR, MILLION_MILLION, RefusalCase, after, as_numbers, ask, at_least, both, commute, counters, form, go, join, last,
    move, order, power, returns, turn, values, when,
)


def each_with(shape, number):
    """The move that gives each counter the value that shape tells, None for a number alone, and this number."""
    return as_numbers([(source, number) for source in shape])


def joined_to(shape, number):
    """A line by which move 0 is each_with(shape, number), for 1000000 or -1000000."""
    count = len(shape)
    sign = 1 if number > 0 else -1
    line = [counters(count), move(0, *each_with(shape, 99 * sign)), move(1, *each_with(range(count), 99 * sign))]
    # 99 * 10101 is 999999.
    return line + [join()] * 10100 + [move(1, *each_with(range(count), sign)), join()]


class JoinTest(unittest.TestCase):
    def test_at_first(self):
        self.assertEqual(last(join()), [1, 0, 0])
        self.assertEqual(last(counters(4), join()), [1, 0, 0, 1, 1, 0, 1, 2, 0, 1, 3, 0])

    def test_the_second_is_worked_out_with_the_first(self):
        self.assertEqual(last(move(0, 0, 3), move(1, 1, 0, 4), join()), [0, 7])
        self.assertEqual(last(move(0, 1, 0, 4), move(1, 0, 3), join()), [0, 3])
        line = [counters(2), move(0, 1, 1, 3, 1, 0, 0), move(1, 1, 0, 5, 0, 7)]
        self.assertEqual(last(*line, join()), [1, 1, 8, 0, 7])
        line = [counters(3), move(0, 1, 1, 1, 0, 2, 1, 0, 3), move(1, 1, 2, 10, 1, 1, 20, 1, 0, 30)]
        self.assertEqual(last(*line, join()), [1, 0, 13, 0, 22, 1, 1, 31])
        line = [counters(4), move(0, 1, 3, 1, 1, 2, 2, 0, 3, 0, 4), move(1, 1, 1, 5, 1, 0, 6, 0, 7, 1, 2, 8)]
        self.assertEqual(last(*line, join()), [1, 2, 7, 1, 3, 7, 0, 7, 0, 11])

    def test_it_is_move_0_from_then_on(self):
        line = [counters(2), move(0, 1, 1, 3, 1, 0, 0), move(1, 1, 0, 5, 0, 7), values(10, 20), join()]
        self.assertEqual(ask(*line, power(0, 1), after(0, 1))[-2:], [[1, 1, 8, 0, 7], [0, 28, 7]])

    def test_move_1_and_the_values_stay(self):
        line = [counters(2), move(0, 1, 1, 3, 1, 0, 0), move(1, 1, 0, 5, 0, 7), values(10, 20), join()]
        self.assertEqual(ask(*line, power(1, 1), after(1, 0))[-2:], [[1, 0, 5, 0, 7], [0, 10, 20]])

    def test_one_behind_another(self):
        answered = ask(move(0, 1, 0, 2), move(1, 1, 0, 99), *[join()] * 98)
        self.assertEqual(answered[2:], [[1, 0, 2 + 99 * n] for n in range(1, 99)])
        answered = ask(move(0, 0, 2), move(1, 1, 0, -99), *[join()] * 98)
        self.assertEqual(answered[2:], [[0, 2 - 99 * n] for n in range(1, 99)])
        line = [counters(2), move(0, 1, 0, 1, 0, 3), move(1, 1, 1, 10, 1, 0, 20), *[join()] * 4]
        self.assertEqual(ask(*line)[3:], [
            [0, 13, 1, 0, 21], [1, 0, 31, 0, 33], [0, 43, 1, 0, 51], [1, 0, 61, 0, 63],
        ])

    def test_a_later_move_takes_the_place(self):
        line = [move(0, 1, 0, 99), move(1, 1, 0, 99), join(), join()]
        self.assertEqual(last(*line, move(0, 1, 0, 4), power(0, 1)), [1, 0, 4])
        self.assertEqual(last(*line, move(0, 1, 0, 100), power(0, 1)), [1, 0, 297])
        self.assertEqual(last(*line, counters(1), power(0, 1)), [1, 0, 0])

    def test_the_other_calls_keep_to_it(self):
        first, second = [1, 1, 90, 1, 2, 80, 1, 0, -70], [1, 0, 60, 1, 1, 70, 1, 2, 80]
        line = [counters(3), move(0, *first), move(1, *second), values(1, 2, 3), join()]
        expected = [
            (power(0, 1), [1, 1, 150, 1, 2, 150, 1, 0, 10]),
            (power(0, 2), [1, 2, 300, 1, 0, 160, 1, 1, 160]),
            (form(0, 0), [0, 3, 310, 1, 0, 0, 1, 1, 150, 1, 2, 300]),
            (after(0, 3), [0, 311, 312, 313]),
            (go(0, 1), [0, 152, 153, 11]),
            (when(0, 0, 152), [1, 1]),
            (when(0, 0, 303), [1, 2]),
            (when(0, 2, 313), [1, 3]),
            (at_least(0, 0, 304), [1, 3]),
            (at_least(0, 1, 100), [1, 1]),
            (turn(0), [1, 1, 2, -10, 1, 0, -150, 1, 1, -150]),
            (both(), [1, 1, 210, 1, 2, 220, 1, 0, 90]),
            (commute(), [0, 0]),
            (order(0), [0]),
            (returns(0), [0]),
            (join(), [1, 1, 210, 1, 2, 220, 1, 0, 90]),
        ]
        for call, answer in expected:
            self.assertEqual(last(*line, call), answer, call)

    def test_commute_order_and_returns_by_a_joined_move(self):
        line = [counters(2), move(0, 1, 1, 99, 1, 0, -99), move(1, 1, 0, 99, 1, 1, -99), join()]
        self.assertEqual(ask(*line, power(0, 1), order(0))[-2:], [[1, 1, 198, 1, 0, -198], [1, 2]])
        self.assertEqual(last(*line, values(299, 101), returns(0)), [1, 1])
        self.assertEqual(last(*line, values(300, 101), returns(0)), [1, 2])
        self.assertEqual(last(*line, commute()), [0, 0])
        self.assertEqual(last(*line, move(1, 1, 0, 7, 1, 1, 7), commute()), [1])


class TooLargeTest(RefusalCase):
    def test_at_the_edge_and_one_beyond(self):
        for shape in ([0], [None], [1, 0], [None, 0, 1], [1, 2, 3, 0]):
            for number in (-1000000, 1000000):
                line = joined_to(shape, number)
                self.assertEqual(last(*line), each_with(shape, number))
                self.refused_behind(line, -6, join(), len(shape))

    def test_one_number_is_enough(self):
        for sign in (-1, 1):
            line = joined_to([2, 1, None, 0], sign * 1000000)
            for place in range(4):
                # One counter is given the least that is too much, the others nothing more.
                numbers = as_numbers([(counter, sign if counter == place else 0) for counter in range(4)])
                self.refused_behind([*line, move(1, *numbers)], -6, join(), 4)

    def test_behind_a_refusal_joins_go_on(self):
        line = [*joined_to([0], 1000000), join(), join(), move(1, 1, 0, -1), join(), move(1, 0, 99), join()]
        self.assertEqual(ask(*line)[-6:], [[-6], [-6], [0], [1, 0, 999999], [0], [0, 99]])

    def test_both_is_never_refused_by_it(self):
        line = joined_to([0], -1000000)
        self.assertEqual(ask(*line, both(), power(0, 1))[-2:], [[1, 0, -1000001], [1, 0, -1000000]])

    def test_the_other_calls_by_the_largest_numbers(self):
        line = [*joined_to([0], 1000000), values(1000000)]
        self.assertEqual(last(*line, power(0, MILLION_MILLION)), [1, 0, FAR])
        self.assertEqual(last(*line, after(0, MILLION_MILLION)), [0, FAR + 1000000])
        self.assertEqual(last(*line, form(0, 0)), [0, 1, 1000000, 1, 0, 0])
        self.assertEqual(last(*line, turn(0)), [1, 1, 0, -1000000])
        self.assertEqual(last(*line, when(0, 0, FAR)), [1, MILLION_MILLION - 1])
        self.assertEqual(last(*line, when(0, 0, FAR - 1)), [0])
        self.assertEqual(last(*line, at_least(0, 0, FAR - 1)), [1, MILLION_MILLION - 1])
        self.assertEqual(last(*line, go(0, 999999)), [0, MILLION_MILLION])
        self.assertEqual(last(*line, go(0, 1000000)), [-7])


if __name__ == "__main__":
    unittest.main()
