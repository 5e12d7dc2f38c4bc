"""counters, move and values: point 1."""

import unittest

from lines import CHANGED, FAR, RefusalCase, after, ask, both, counters, form, last, move, power, values


class CountersTest(RefusalCase):
    def test_answers_n(self):
        for n in (1, 2, 3, 4):
            self.assertEqual(ask(counters(n)), [[n]])

    def test_so_many_from_now_on(self):
        for n in (1, 2, 3, 4):
            self.assertEqual(last(counters(n), after(0, 1)), [0] + [0] * n)
            self.assertEqual(last(counters(n), form(0, n - 1)), [0, 1, 0, 1, n - 1, 0])
            self.assertEqual(last(counters(n), form(0, n)), [-3])

    def test_values_and_moves_as_at_first(self):
        for count in (1, 2, 3, 4):
            for n in (1, 2, 3, 4):
                own = [number for counter in range(n) for number in (1, counter, 0)]
                answered = ask(*CHANGED[count], counters(n), after(0, 0), power(0, 1), power(1, 1), both())
                self.assertEqual(answered[-4:], [[0] + [0] * n, own, own, own])

    def test_one_move_is_not_the_other(self):
        self.assertEqual(last(counters(2), move(0, 0, 1, 0, 2), power(1, 1)), [1, 0, 0, 1, 1, 0])
        self.assertEqual(last(counters(2), move(1, 0, 1, 0, 2), power(0, 1)), [1, 0, 0, 1, 1, 0])

    def test_refused(self):
        for count in (1, 2, 3, 4):
            for n in (0, -1, 5, 6, -FAR, FAR):
                self.refused(-1, counters(n), count)


class MoveTest(RefusalCase):
    def test_it_is_this_move_from_now_on(self):
        lists = {
            1: [[0, 7], [1, 0, -3]],
            2: [[0, 7, 0, 8], [1, 1, 3, 0, -4], [0, 2, 1, 0, 6], [1, 1, 1, 1, 1, 2]],
            3: [[0, 1, 0, 2, 0, 3], [1, 2, 1, 1, 0, 2, 1, 1, 3], [0, 1, 1, 2, 0, 0, 0]],
            4: [[0, 1, 0, 2, 0, 3, 0, 4], [1, 3, 1, 1, 2, 2, 1, 1, 3, 1, 0, 4], [0, 1, 1, 3, 0, 0, 0, 1, 1, 1]],
        }
        for count in lists:
            for numbers in lists[count]:
                for which in (0, 1):
                    answered = ask(counters(count), move(which, *numbers), power(which, 1))
                    self.assertEqual(answered[1:], [[0], numbers])

    def test_a_later_move_takes_the_place(self):
        self.assertEqual(last(move(0, 0, 7), move(0, 1, 0, 2), power(0, 1)), [1, 0, 2])

    def test_the_other_move_and_the_values_stay(self):
        answered = ask(*CHANGED[2], move(0, 0, 1, 0, 2), power(1, 1), after(1, 0))
        self.assertEqual(answered[-2:], [[1, 0, 5, 0, 7], [0, 10, 20]])

    def test_numbers_at_the_ends_of_their_range(self):
        for number in (-99, 99):
            self.assertEqual(last(move(0, 0, number), power(0, 1)), [0, number])
            self.assertEqual(last(move(1, 1, 0, number), power(1, 1)), [1, 0, number])

    def test_no_such_move(self):
        for which in (-1, 2, 3, -FAR, FAR):
            self.refused(-2, move(which, 0, 1, 0, 2), 2)

    def test_empty(self):
        for count in (1, 2, 3, 4):
            self.refused(-1, move(0), count)
            self.refused(-1, move(1), count)

    def test_too_short(self):
        self.refused(-1, move(0, 0), 1)
        self.refused(-1, move(0, 1), 1)
        self.refused(-1, move(0, 1, 0), 1)
        self.refused(-1, move(0, 0, 1), 2)
        self.refused(-1, move(0, 0, 1, 0), 2)
        self.refused(-1, move(0, 0, 1, 1, 0), 2)
        self.refused(-1, move(0, 1, 0, 1, 1, 1), 2)
        self.refused(-1, move(0, 1, 0, 0, 1, 1, 0), 3)
        self.refused(-1, move(0, 1, 0, 0, 1, 1, 0, 1, 2, 0, 1, 3), 4)

    def test_too_long(self):
        self.refused(-1, move(0, 0, 1, 0), 1)
        self.refused(-1, move(0, 0, 1, 1), 1)
        self.refused(-1, move(0, 0, 1, 0, 1), 1)
        self.refused(-1, move(0, 1, 0, 1, 1), 1)
        self.refused(-1, move(0, 0, 1, 0, 2, 0, 3), 2)
        self.refused(-1, move(0, *[1, 0, 0] * 4, 0), 4)
        self.refused(-1, move(0, *[1, 0, 0] * 5), 4)
        self.refused(-1, move(0, *[0, 0] * 10), 4)
        self.refused(-1, move(0, *[0] * 20), 4)

    def test_neither_number_nor_counter(self):
        for kind in (-1, 2, 3, -FAR, FAR):
            self.refused(-1, move(0, kind, 0), 1)
            self.refused(-1, move(0, kind, 0, 0), 1)
            self.refused(-1, move(0, kind, 0, 0, 0), 1)
            self.refused(-1, move(1, 0, 1, kind, 0), 2)

    def test_number_out_of_its_range(self):
        for number in (-100, 100, -FAR, FAR):
            self.refused(-1, move(0, 0, number), 1)
            self.refused(-1, move(0, 1, 0, number), 1)
            self.refused(-1, move(1, 0, 1, 0, number), 2)
            self.refused(-1, move(1, 1, 3, number, 0, 1, 0, 1, 0, 1), 4)

    def test_a_counter_that_there_is_not(self):
        for count in (1, 2, 3, 4):
            for counter in (-1, count, count + 1, -FAR, FAR):
                self.refused(-1, move(0, 1, counter, 0, *[0, 1] * (count - 1)), count)
                self.refused(-1, move(1, *[0, 1] * (count - 1), 1, counter, 0), count)

    def test_which_is_looked_at_first(self):
        for which in (-1, 2, -FAR, FAR):
            self.refused(-2, move(which), 2)
            self.refused(-2, move(which, 0, 100), 1)
            self.refused(-2, move(which, *[FAR] * 20), 2)


class ValuesTest(RefusalCase):
    def test_held_from_now_on(self):
        for numbers in ([5], [10, -20], [1, 0, -3], [4, 3, 2, 1]):
            for which in (0, 1):
                answered = ask(counters(len(numbers)), values(*numbers), after(which, 0))
                self.assertEqual(answered[1:], [[0], [0] + numbers])

    def test_later_values_take_the_place(self):
        self.assertEqual(last(values(5), values(6), after(0, 0)), [0, 6])

    def test_the_moves_stay(self):
        answered = ask(*CHANGED[2], values(1, 2), power(0, 1), power(1, 1))
        self.assertEqual(answered[-2:], [[1, 1, 3, 1, 0, 0], [1, 0, 5, 0, 7]])

    def test_ends_of_their_range(self):
        for numbers in ([-1000000], [1000000], [1000000, -1000000], [0, -1000000, 0, 1000000]):
            answered = ask(counters(len(numbers)), values(*numbers), after(0, 0))
            self.assertEqual(answered[1:], [[0], [0] + numbers])

    def test_too_few_or_too_many(self):
        for count in (1, 2, 3, 4):
            for length in range(11):
                if length != count:
                    self.refused(-1, values(*[3] * length), count)

    def test_out_of_their_range(self):
        for count in (1, 2, 3, 4):
            for number in (-1000001, 1000001, -FAR, FAR):
                for place in range(count):
                    numbers = [0] * count
                    numbers[place] = number
                    self.refused(-1, values(*numbers), count)


if __name__ == "__main__":
    unittest.main()
