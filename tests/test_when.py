"""when and at_least: what they answer, and points 1 and 2."""

import unittest

from lines import FAR, MILLION_MILLION, RefusalCase, ask, at_least, counters, form, go, last, move, values, when

# By move 0 counter 0 has the values 10, 21, 32, 43, and 54 from then on.
TAIL = [counters(4), move(0, 1, 1, 1, 1, 2, 1, 1, 3, 1, 0, 51), values(10, 20, 30, 40)]

# By move 0 counter 0 has 0, 50, 10, 60, 20, 70 and so on, each 10 more after two rounds.
CLIMB = [counters(2), move(0, 1, 1, 0, 1, 0, 10), values(0, 50)]

# The same, each 10 less after two rounds: 0, 50, -10, 40, -20, 30.
FALL = [counters(2), move(0, 1, 1, 0, 1, 0, -10), values(0, 50)]

# Counters 1 to 3 are given one another's values, and counter 0 has 5, 100, 200, 300, 100, 200, 300 and so on.
STAY = [counters(4), move(0, 1, 1, 0, 1, 2, 0, 1, 3, 0, 1, 1, 0), values(5, 100, 200, 300)]

# Counter 0 has 500, then 1, 3, 5 and so on.
HIGH_FIRST = [counters(2), move(0, 1, 1, 0, 1, 1, 2), values(500, 1)]


class FirstRoundCase(unittest.TestCase):
    def answered(self, call, line, expected):
        """Counter 0 comes to each value after so many rounds; None for never."""
        for value, n in expected.items():
            self.assertEqual(last(*line, call(0, 0, value)), [0] if n is None else [1, n], value)


class WhenTest(FirstRoundCase):
    def test_at_once(self):
        for count in (1, 2, 3, 4):
            for counter in range(count):
                held = [10, 20, 30, 40][:count]
                for which in (0, 1):
                    answered = ask(counters(count), values(*held), when(which, counter, held[counter]))
                    self.assertEqual(answered[-1], [1, 0])

    def test_a_value_that_stays(self):
        self.answered(when, [values(7)], {7: 0, 6: None, 8: None, FAR: None, -FAR: None})
        self.answered(when, [move(0, 0, 7)], {0: 0, 7: 1, 6: None, 8: None, FAR: None, -FAR: None})

    def test_in_the_tail(self):
        self.answered(when, TAIL, {10: 0, 21: 1, 32: 2, 43: 3, 54: 4, 55: None, 9: None, 20: None, -FAR: None})

    def test_in_the_tail_alone(self):
        # 500 is there at once; what comes behind it is odd, and never 500 again.
        self.answered(when, HIGH_FIRST, {500: 0, 1: 1, 3: 2, 501: 251, 499: 250, 498: None, -1: None})

    def test_in_the_circle(self):
        self.answered(when, STAY, {5: 0, 100: 1, 200: 2, 300: 3, 0: None, 400: None})

    def test_a_steady_amount_above_0(self):
        self.answered(when, CLIMB, {0: 0, 50: 1, 10: 2, 60: 3, 20: 4, 70: 5, 40: 8, -10: None, 5: None, 65: None})

    def test_a_steady_amount_below_0(self):
        self.answered(when, FALL, {0: 0, 50: 1, -10: 2, 40: 3, -20: 4, 10: 9, -40: 8, 60: None, -5: None, 5: None})

    def test_the_least_of_several_places(self):
        # 60 is there after 3 rounds, by the later place of the circle, and after 12, by the earlier one.
        self.answered(when, CLIMB, {60: 3, 90: 9, 50: 1})
        self.answered(when, [*FALL, values(50, 0)], {0: 1, 50: 0, -10: 3, 40: 2})
        # Both places have the same value at first.
        self.answered(when, [*CLIMB, values(0, 0)], {0: 0, 10: 2, 20: 4})

    def test_one_place_that_never_and_one_that_does(self):
        # After each two rounds 6 more: from 0 on, and from 1 on.
        line = [counters(2), move(0, 1, 1, 1, 1, 0, 5), values(0, 0)]
        self.answered(when, line, {6: 2, 7: 3, 12: 4, 13: 5, 8: None, 9: None, 10: None, 11: None, -6: None, -5: None})

    def test_each_counter_has_its_own(self):
        line = [counters(3), move(0, 1, 0, 1, 1, 1, 2, 0, 9), values(0, 10, 20)]
        self.assertEqual(last(*line, when(0, 0, 20)), [1, 20])
        self.assertEqual(last(*line, when(0, 1, 20)), [1, 5])
        self.assertEqual(last(*line, when(0, 2, 20)), [1, 0])
        self.assertEqual(last(*line, when(0, 2, 9)), [1, 1])
        self.assertEqual(last(*line, when(1, 2, 9)), [0])

    def test_very_many_rounds(self):
        self.answered(when, [move(0, 1, 0, 1)], {MILLION_MILLION: MILLION_MILLION, FAR - 1: FAR - 1, FAR: FAR})
        self.answered(when, [move(0, 1, 0, -1), values(1000000)], {-FAR: FAR + 1000000, FAR: None})
        self.answered(when, [move(0, 1, 0, 7)], {7 * 10 ** 17: 10 ** 17, 7 * 10 ** 17 + 1: None})
        # 1 more only after each four rounds.
        line = [counters(4), move(0, 1, 1, 0, 1, 2, 0, 1, 3, 0, 1, 0, 1), values(-1000000, -3, -2, -1)]
        self.answered(when, line, {FAR: 4 * (FAR + 1) + 3})
        line[-1] = values(*[-1000000] * 4)
        self.answered(when, line, {FAR: 4 * (FAR + 1000000), -FAR: None})

    def test_from_the_values_that_go_has_left(self):
        line = [move(0, 1, 0, 3), go(0, 10)]
        self.answered(when, line, {30: 0, 33: 1, 27: None})
        line = [move(0, 1, 0, -1), go(0, MILLION_MILLION)]
        self.answered(when, line, {-MILLION_MILLION: 0, -FAR: FAR - MILLION_MILLION, FAR: None})


class AtLeastTest(FirstRoundCase):
    def test_at_once(self):
        for count in (1, 2, 3, 4):
            for counter in range(count):
                held = [10, 20, 30, 40][:count]
                for value in (held[counter], held[counter] - 1, -FAR):
                    answered = ask(counters(count), values(*held), at_least(1, counter, value))
                    self.assertEqual(answered[-1], [1, 0])

    def test_a_value_that_stays(self):
        self.answered(at_least, [values(7)], {7: 0, 6: 0, 8: None, FAR: None, -FAR: 0})
        self.answered(at_least, [move(0, 0, 7)], {0: 0, 1: 1, 7: 1, 8: None, FAR: None, -FAR: 0})

    def test_in_the_tail(self):
        self.answered(at_least, TAIL, {10: 0, 11: 1, 21: 1, 22: 2, 33: 3, 43: 3, 44: 4, 54: 4, 55: None, FAR: None})

    def test_in_the_tail_alone(self):
        self.answered(at_least, HIGH_FIRST, {2: 0, 499: 0, 500: 0, 501: 251, 502: 252, 503: 252})
        # 5, then 90 once, then 7 from then on.
        line = [counters(3), move(0, 1, 1, 0, 1, 2, 0, 0, 7), values(5, 90, 1)]
        self.answered(at_least, line, {5: 0, 6: 1, 90: 1, 91: None})

    def test_in_the_circle(self):
        self.answered(at_least, STAY, {5: 0, 6: 1, 100: 1, 101: 2, 200: 2, 201: 3, 300: 3, 301: None})

    def test_a_steady_amount_above_0(self):
        self.answered(at_least, CLIMB, {0: 0, -1: 0, 1: 1, 50: 1, 51: 3, 60: 3, 61: 5, 70: 5, 71: 7})

    def test_a_steady_amount_below_0(self):
        self.answered(at_least, FALL, {0: 0, -1: 0, 1: 1, 40: 1, 50: 1, 51: None, FAR: None})

    def test_the_least_of_several_places(self):
        # 100 is there after 11 rounds by the later place, and after 20 by the earlier one.
        self.answered(at_least, CLIMB, {100: 11, 99: 11, 101: 13})
        # The earlier place comes first, and by the later one it would be a round more.
        self.answered(at_least, [*CLIMB, values(50, 50)], {51: 2, 60: 2, 61: 4})
        # 15 more after each two rounds, from 0 on and from 3 on.
        line = [counters(2), move(0, 1, 1, 3, 1, 0, 12)]
        self.answered(at_least, line, {3: 1, 4: 2, 15: 2, 16: 3, 18: 3, 19: 4, 150: 20, 151: 21, 153: 21, 154: 22})

    def test_it_may_be_more(self):
        self.answered(at_least, [move(0, 1, 0, 7)], {1: 1, 7: 1, 8: 2, 14: 2, 15: 3, 700: 100, 701: 101})

    def test_each_counter_has_its_own(self):
        line = [counters(3), move(0, 1, 0, 1, 1, 1, 2, 0, 9), values(0, 11, 0)]
        self.assertEqual(last(*line, at_least(0, 0, 20)), [1, 20])
        self.assertEqual(last(*line, at_least(0, 1, 20)), [1, 5])
        self.assertEqual(last(*line, at_least(0, 2, 20)), [0])
        self.assertEqual(last(*line, at_least(0, 2, 9)), [1, 1])
        self.assertEqual(last(*line, at_least(1, 2, 9)), [0])

    def test_very_many_rounds(self):
        self.answered(at_least, [move(0, 1, 0, 1)], {MILLION_MILLION: MILLION_MILLION, FAR - 1: FAR - 1, FAR: FAR})
        self.answered(at_least, [move(0, 1, 0, -1), values(1000000)], {-FAR: 0, FAR: None, 1000001: None})
        self.answered(at_least, [move(0, 1, 0, 7)], {7 * 10 ** 17: 10 ** 17, 7 * 10 ** 17 + 1: 10 ** 17 + 1})
        line = [counters(4), move(0, 1, 1, 0, 1, 2, 0, 1, 3, 0, 1, 0, 1), values(*[-1000000] * 4)]
        self.answered(at_least, line, {FAR: 4 * (FAR + 1000000), -FAR: 0})

    def test_from_the_values_that_go_has_left(self):
        line = [move(0, 1, 0, 1), move(1, 1, 0, -1), go(1, MILLION_MILLION)]
        self.answered(at_least, line, {-MILLION_MILLION: 0, FAR: FAR + MILLION_MILLION, -FAR: 0})


class RefusalTest(RefusalCase):
    def test_no_such_move(self):
        for which in (-1, 2, -FAR, FAR):
            for value in (10, FAR, -FAR):
                for call in (when, at_least):
                    self.refused(-2, call(which, 0, value), 2)
                    self.refused(-2, call(which, 1, value), 2)

    def test_no_such_counter(self):
        for count in (1, 2, 3, 4):
            for counter in (-1, -count, count, count + 1, -FAR, FAR):
                for value in (0, FAR, -FAR):
                    for call in (when, at_least):
                        self.refused(-3, call(0, counter, value), count)
                        self.refused(-3, call(1, counter, value), count)

    def test_which_is_looked_at_first(self):
        for which in (-1, 2, -FAR, FAR):
            for counter in (-1, 2, -FAR, FAR):
                for call in (when, at_least):
                    self.refused(-2, call(which, counter, FAR), 2)

    def test_no_value_is_refused(self):
        for value in (-FAR, FAR):
            self.assertEqual(ask(when(0, 0, value), form(0, 0))[0], [0])
        self.assertEqual(ask(at_least(0, 0, FAR), at_least(0, 0, -FAR)), [[0], [1, 0]])


if __name__ == "__main__":
    unittest.main()
