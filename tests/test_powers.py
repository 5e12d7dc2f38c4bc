"""after and power: what they answer, and point 2."""

import unittest

from lines import FAR, MILLION_MILLION, RefusalCase, after, ask, counters, last, move, power, values


class AfterTest(unittest.TestCase):
    def test_one_counter(self):
        line = [move(0, 1, 0, 5), move(1, 0, -8), values(100)]
        self.assertEqual(last(*line, after(0, 0)), [0, 100])
        self.assertEqual(last(*line, after(0, 1)), [0, 105])
        self.assertEqual(last(*line, after(0, 7)), [0, 135])
        self.assertEqual(last(*line, after(1, 0)), [0, 100])
        self.assertEqual(last(*line, after(1, 1)), [0, -8])
        self.assertEqual(last(*line, after(1, 2)), [0, -8])

    def test_all_at_once_by_the_values_ahead(self):
        line = [counters(3), move(0, 1, 1, 0, 1, 2, 0, 1, 0, 0), values(1, 2, 3)]
        self.assertEqual(last(*line, after(0, 1)), [0, 2, 3, 1])
        self.assertEqual(last(*line, after(0, 2)), [0, 3, 1, 2])
        self.assertEqual(last(*line, after(0, 3)), [0, 1, 2, 3])

    def test_a_number_goes_from_counter_to_counter(self):
        line = [counters(4), move(1, 0, 9, 1, 0, 1, 1, 1, 1, 1, 2, 1), values(10, 20, 30, 40)]
        self.assertEqual(last(*line, after(1, 1)), [0, 9, 11, 21, 31])
        self.assertEqual(last(*line, after(1, 2)), [0, 9, 10, 12, 22])
        self.assertEqual(last(*line, after(1, 3)), [0, 9, 10, 11, 13])
        self.assertEqual(last(*line, after(1, 4)), [0, 9, 10, 11, 12])
        self.assertEqual(last(*line, after(1, 5)), [0, 9, 10, 11, 12])

    def test_a_million_million_rounds(self):
        self.assertEqual(last(move(0, 1, 0, 99), values(1000000), after(0, MILLION_MILLION)), [0, 99000001000000])
        self.assertEqual(last(move(0, 1, 0, -99), values(-1000000), after(0, MILLION_MILLION)), [0, -99000001000000])
        line = [counters(2), move(0, 1, 1, 3, 1, 0, 0), values(10, 20)]
        self.assertEqual(last(*line, after(0, MILLION_MILLION)), [0, 1500000000010, 1500000000020])
        self.assertEqual(last(*line, after(0, MILLION_MILLION - 1)), [0, 1500000000020, 1500000000007])

    def test_the_values_stay(self):
        line = [move(0, 1, 0, 5), values(1), after(0, 3), after(0, 3), after(0, 0)]
        self.assertEqual(ask(*line)[-3:], [[0, 16], [0, 16], [0, 1]])


class PowerTest(unittest.TestCase):
    def test_power_0(self):
        self.assertEqual(last(move(0, 0, 5), power(0, 0)), [1, 0, 0])
        self.assertEqual(last(counters(2), move(1, 1, 1, 3, 0, 4), power(1, 0)), [1, 0, 0, 1, 1, 0])
        self.assertEqual(last(counters(3), power(0, 0)), [1, 0, 0, 1, 1, 0, 1, 2, 0])
        self.assertEqual(last(counters(4), power(0, 0)), [1, 0, 0, 1, 1, 0, 1, 2, 0, 1, 3, 0])

    def test_power_1_is_the_move(self):
        self.assertEqual(last(counters(2), move(0, 1, 1, 3, 0, 4), power(0, 1)), [1, 1, 3, 0, 4])

    def test_numbers_beyond_those_of_a_move(self):
        self.assertEqual(last(move(0, 1, 0, 99), power(0, 2)), [1, 0, 198])
        self.assertEqual(last(move(0, 1, 0, -99), power(0, 3)), [1, 0, -297])

    def test_circles_and_ends(self):
        line = [counters(4), move(0, 1, 1, 1, 1, 2, 10, 1, 1, 20, 0, 5)]
        self.assertEqual(last(*line, power(0, 2)), [1, 2, 11, 1, 1, 30, 1, 2, 30, 0, 5])
        self.assertEqual(last(*line, power(0, 3)), [1, 1, 31, 1, 2, 40, 1, 1, 50, 0, 5])

    def test_a_million_million_rounds(self):
        self.assertEqual(last(move(0, 1, 0, 99), power(0, MILLION_MILLION)), [1, 0, 99 * 10 ** 12])
        self.assertEqual(last(move(0, 1, 0, -99), power(0, MILLION_MILLION)), [1, 0, -99 * 10 ** 12])
        self.assertEqual(last(move(0, 0, -99), power(0, MILLION_MILLION)), [0, -99])
        # 10^12 is 3 * 333333333333 + 1.
        line = [counters(3), move(1, 1, 1, 1, 1, 2, 2, 1, 0, 4)]
        self.assertEqual(
            last(*line, power(1, MILLION_MILLION)),
            [1, 1, 2333333333332, 1, 2, 2333333333333, 1, 0, 2333333333335],
        )

    def test_the_move_stays(self):
        answered = ask(move(0, 1, 0, 5), power(0, 3), power(0, 3), power(0, 1))
        self.assertEqual(answered[-3:], [[1, 0, 15], [1, 0, 15], [1, 0, 5]])


class RefusalTest(RefusalCase):
    def test_no_such_move(self):
        for which in (-1, 2, -FAR, FAR):
            for call in (after, power):
                for n in (0, 5, MILLION_MILLION):
                    self.refused(-2, call(which, n), 2)

    def test_no_such_round(self):
        for n in (-1, MILLION_MILLION + 1, -FAR, FAR):
            for call in (after, power):
                self.refused(-4, call(0, n), 2)
                self.refused(-4, call(1, n), 2)

    def test_which_is_looked_at_first(self):
        for which in (-1, 2, -FAR, FAR):
            for n in (-1, MILLION_MILLION + 1, -FAR, FAR):
                for call in (after, power):
                    self.refused(-2, call(which, n), 2)


if __name__ == "__main__":
    unittest.main()
