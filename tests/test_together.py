"""both and commute."""

import unittest

from lines import after, ask, both, commute, counters, last, move, power, values


class BothTest(unittest.TestCase):
    def test_at_first(self):
        self.assertEqual(last(both()), [1, 0, 0])
        self.assertEqual(last(counters(4), both()), [1, 0, 0, 1, 1, 0, 1, 2, 0, 1, 3, 0])

    def test_the_second_is_worked_out_with_the_first(self):
        self.assertEqual(last(move(0, 0, 3), move(1, 1, 0, 4), both()), [0, 7])
        self.assertEqual(last(move(0, 1, 0, 4), move(1, 0, 3), both()), [0, 3])
        line = [counters(3), move(0, 1, 1, 1, 0, 2, 1, 0, 3), move(1, 1, 2, 10, 1, 1, 20, 1, 0, 30)]
        self.assertEqual(last(*line, both()), [1, 0, 13, 0, 22, 1, 1, 31])
        line = [counters(4), move(0, 1, 3, 1, 1, 2, 2, 0, 3, 0, 4), move(1, 1, 1, 5, 1, 0, 6, 0, 7, 1, 2, 8)]
        self.assertEqual(last(*line, both()), [1, 2, 7, 1, 3, 7, 0, 7, 0, 11])

    def test_numbers_beyond_those_of_a_move(self):
        self.assertEqual(last(move(0, 1, 0, 99), move(1, 1, 0, 99), both()), [1, 0, 198])
        self.assertEqual(last(move(0, 0, -99), move(1, 1, 0, -99), both()), [0, -198])

    def test_changes_nothing(self):
        line = [counters(2), move(0, 1, 1, 3, 1, 0, 0), move(1, 1, 0, 5, 0, 7), values(10, 20)]
        answered = ask(*line, both(), both(), commute(), after(0, 0), power(0, 1), power(1, 1))
        self.assertEqual(answered[4:6], [[1, 1, 8, 0, 7]] * 2)
        self.assertEqual(answered[-3:], [[0, 10, 20], [1, 1, 3, 1, 0, 0], [1, 0, 5, 0, 7]])


class CommuteTest(unittest.TestCase):
    def test_at_first(self):
        for n in (1, 2, 3, 4):
            self.assertEqual(last(counters(n), commute()), [1])

    def test_the_same(self):
        self.assertEqual(last(move(0, 1, 0, 5), move(1, 1, 0, -7), commute()), [1])
        self.assertEqual(last(move(0, 0, 5), move(1, 0, 5), commute()), [1])
        self.assertEqual(last(counters(3), move(1, 1, 2, 1, 0, 2, 0, 3), commute()), [1])
        swap = [1, 1, 2, 1, 0, 2]
        self.assertEqual(last(counters(2), move(0, *swap), move(1, *swap), commute()), [1])

    def test_other_numbers(self):
        self.assertEqual(last(move(0, 0, 5), move(1, 0, 6), commute()), [0, 0])
        self.assertEqual(last(move(0, 0, 5), move(1, 1, 0, 1), commute()), [0, 0])

    def test_the_same_values_by_chance_are_not_the_same_moves(self):
        # Both ways give counter 0 what is 0 now: by one the number 0, by the other counter 1's value.
        line = [counters(2), move(0, 1, 1, 0, 1, 1, 0), move(1, 0, 0, 1, 1, 0), values(0, 0)]
        self.assertEqual(last(*line, commute()), [0, 0])

    def test_the_least_counter(self):
        for count in (1, 2, 3, 4):
            for least in range(count):
                one = []
                other = []
                for counter in range(count):
                    one.extend([0, 5] if counter >= least else [1, counter, 1])
                    other.extend([0, 6] if counter >= least else [1, counter, 2])
                answered = last(counters(count), move(0, *one), move(1, *other), commute())
                self.assertEqual(answered, [0, least])


if __name__ == "__main__":
    unittest.main()
