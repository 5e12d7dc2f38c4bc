"""go: what it answers, and point 2."""

import unittest

from lines import (
    CHANGED, FAR, MILLION_MILLION, RefusalCase, after, ask, at_least, counters, go, last, move, power, returns, values,
    when,
)

# Move 0 brings the value 1 up, move 1 brings it 1 down.
UP_AND_DOWN = [move(0, 1, 0, 1), move(1, 1, 0, -1)]


class GoTest(unittest.TestCase):
    def test_answers_the_values(self):
        self.assertEqual(last(move(0, 1, 0, 5), values(100), go(0, 7)), [0, 135])
        self.assertEqual(last(counters(2), move(1, 1, 1, 3, 1, 0, 0), values(10, 20), go(1, 5)), [0, 29, 16])
        self.assertEqual(last(counters(3), move(0, 1, 1, 0, 1, 2, 0, 1, 0, 0), values(1, 2, 3), go(0, 2)), [0, 3, 1, 2])
        line = [counters(4), move(0, 0, 9, 1, 0, 1, 1, 1, 1, 1, 2, 1), values(10, 20, 30, 40)]
        self.assertEqual(last(*line, go(0, 3)), [0, 9, 10, 11, 13])

    def test_no_rounds(self):
        for count in (1, 2, 3, 4):
            answered = ask(*CHANGED[count], after(0, 0), go(0, 0), go(1, 0), after(0, 0))[-4:]
            self.assertEqual(answered, [answered[0]] * 4)

    def test_held_from_then_on(self):
        line = [counters(2), move(0, 1, 1, 3, 1, 0, 0), values(10, 20), go(0, 5)]
        self.assertEqual(ask(*line, after(0, 0), after(1, 9))[-2:], [[0, 29, 16], [0, 29, 16]])
        self.assertEqual(ask(*line, go(0, 1), go(0, 1))[-2:], [[0, 19, 29], [0, 32, 19]])
        self.assertEqual(ask(*line, when(0, 0, 29), when(0, 0, 10), at_least(0, 1, 17))[-3:], [[1, 0], [0], [1, 1]])
        self.assertEqual(last(*line, values(1, 2), after(0, 0)), [0, 1, 2])

    def test_piece_by_piece(self):
        line = [counters(3), move(0, 1, 1, 1, 1, 2, -2, 1, 0, 4), values(7, 8, 9)]
        self.assertEqual(last(*line, go(0, 4), go(0, 0), go(0, 13), go(0, 1), after(1, 1)), last(*line, after(0, 18)))

    def test_the_moves_stay(self):
        for count in (1, 2, 3, 4):
            before = ask(*CHANGED[count], power(0, 1), power(1, 1))[-2:]
            self.assertEqual(ask(*CHANGED[count], go(0, 3), go(1, 3), power(0, 1), power(1, 1))[-2:], before)

    def test_a_million_million_rounds(self):
        self.assertEqual(last(move(0, 0, 5), go(0, MILLION_MILLION)), [0, 5])
        self.assertEqual(last(counters(2), values(3, 4), go(1, MILLION_MILLION)), [0, 3, 4])
        line = [counters(2), move(0, 1, 1, 1, 1, 0, 0), values(10, 20), go(0, MILLION_MILLION)]
        self.assertEqual(last(*line), [0, 500000000010, 500000000020])


class BeyondTest(RefusalCase):
    def test_just_not_beyond(self):
        self.assertEqual(ask(*UP_AND_DOWN, go(0, MILLION_MILLION), after(0, 0))[2:], [[0, MILLION_MILLION]] * 2)
        self.assertEqual(ask(*UP_AND_DOWN, go(1, MILLION_MILLION), after(0, 0))[2:], [[0, -MILLION_MILLION]] * 2)
        answered = last(*UP_AND_DOWN, values(1000000), go(0, MILLION_MILLION - 1000000))
        self.assertEqual(answered, [0, MILLION_MILLION])

    def test_just_beyond(self):
        self.refused_behind([*UP_AND_DOWN, values(1)], -7, go(0, MILLION_MILLION), 1)
        self.refused_behind([*UP_AND_DOWN, values(-1)], -7, go(1, MILLION_MILLION), 1)
        self.refused_behind([*UP_AND_DOWN, values(1000000)], -7, go(0, MILLION_MILLION - 999999), 1)
        self.refused_behind([*UP_AND_DOWN, values(-1000000)], -7, go(1, MILLION_MILLION - 999999), 1)

    def test_far_beyond(self):
        for number in (-99, 99):
            self.refused_behind([move(0, 1, 0, number), values(5)], -7, go(0, MILLION_MILLION), 1)

    def test_from_the_edge_on(self):
        top = [*UP_AND_DOWN, go(0, MILLION_MILLION)]
        self.refused_behind(top, -7, go(0, 1), 1)
        self.refused_behind(top, -7, go(0, MILLION_MILLION), 1)
        self.assertEqual(ask(*top, go(0, 0), go(1, 1), go(0, 1))[-3:], [
            [0, MILLION_MILLION], [0, MILLION_MILLION - 1], [0, MILLION_MILLION],
        ])
        bottom = [*UP_AND_DOWN, go(1, MILLION_MILLION)]
        self.refused_behind(bottom, -7, go(1, 1), 1)
        self.assertEqual(ask(*bottom, go(1, 0), go(0, 1), go(1, 1))[-3:], [
            [0, -MILLION_MILLION], [0, 1 - MILLION_MILLION], [0, -MILLION_MILLION],
        ])

    def test_one_of_the_values_is_enough(self):
        for count in (2, 3, 4):
            for place in range(count):
                for number in (-1, 1):
                    numbers = [part for counter in range(count) for part in (1, counter, number * (counter == place))]
                    held = [0] * count
                    line = [counters(count), move(0, *numbers), values(*held), go(0, MILLION_MILLION)]
                    held[place] = number * MILLION_MILLION
                    self.assertEqual(last(*line), [0] + held)
                    self.refused_behind(line, -7, go(0, 1), count)

    def test_held_although_the_call_values_would_not_take_them(self):
        for n in (1000001, MILLION_MILLION):
            line = [*UP_AND_DOWN, go(0, n)]
            self.assertEqual(ask(*line, values(n), after(0, 0))[-2:], [[-1], [0, n]])
            self.assertEqual(ask(*line, returns(0), when(1, 0, n - 5), at_least(0, 0, n))[-3:], [[0], [1, 5], [1, 0]])
            self.assertEqual(last(*line, after(0, MILLION_MILLION)), [0, n + MILLION_MILLION])

    def test_values_on_the_way_are_not_looked_at(self):
        # Each second round both counters have their old value; the round between brings counter 0 beyond.
        line = [counters(2), move(0, 1, 0, 1, 1, 1, 1), go(0, MILLION_MILLION), move(0, 1, 1, 1, 1, 0, -1)]
        self.refused_behind(line, -7, go(0, 1), 2)
        self.assertEqual(last(*line, go(0, 2)), [0, MILLION_MILLION, MILLION_MILLION])
        self.refused_behind(line, -7, go(0, MILLION_MILLION - 1), 2)
        self.assertEqual(last(*line, go(0, MILLION_MILLION)), [0, MILLION_MILLION, MILLION_MILLION])

    def test_after_is_never_refused_by_it(self):
        line = [*UP_AND_DOWN, go(0, MILLION_MILLION), after(0, MILLION_MILLION)]
        self.assertEqual(last(*line), [0, 2 * MILLION_MILLION])
        line = [move(0, 1, 0, -99), values(-1000000), after(0, MILLION_MILLION), after(0, 0)]
        self.assertEqual(ask(*line)[-2:], [[0, -99000001000000], [0, -1000000]])


class RefusalTest(RefusalCase):
    def test_no_such_move(self):
        for which in (-1, 2, -FAR, FAR):
            for count in (1, 2, 3, 4):
                for n in (0, 5, MILLION_MILLION):
                    self.refused(-2, go(which, n), count)

    def test_no_such_round(self):
        for n in (-1, MILLION_MILLION + 1, -FAR, FAR):
            for count in (1, 2, 3, 4):
                self.refused(-4, go(0, n), count)
                self.refused(-4, go(1, n), count)

    def test_which_is_looked_at_first(self):
        for which in (-1, 2, -FAR, FAR):
            for n in (-1, MILLION_MILLION + 1, -FAR, FAR):
                self.refused(-2, go(which, n), 2)

    def test_which_and_the_rounds_are_looked_at_ahead_of_the_values(self):
        line = [move(0, 1, 0, 99), move(1, 1, 0, 99)]
        self.refused_behind(line, -7, go(0, MILLION_MILLION), 1)
        self.refused_behind(line, -4, go(0, MILLION_MILLION + 1), 1)
        self.refused_behind(line, -4, go(1, FAR), 1)
        self.refused_behind(line, -2, go(2, MILLION_MILLION), 1)
        self.refused_behind(line, -2, go(-1, FAR), 1)


if __name__ == "__main__":
    unittest.main()
