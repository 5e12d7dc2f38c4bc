"""form: what it answers, and point 2."""

import unittest

from lines import FAR, RefusalCase, ask, counters, form, last, move, values


class FormTest(unittest.TestCase):
    def test_own_value(self):
        self.assertEqual(last(form(0, 0)), [0, 1, 0, 1, 0, 0])
        self.assertEqual(last(move(1, 1, 0, -99), form(1, 0)), [0, 1, -99, 1, 0, 0])

    def test_just_a_number(self):
        self.assertEqual(last(move(0, 0, 99), form(0, 0)), [1, 1, 0, 1, 0, 0, 0, 99])

    def test_each_tail_to_a_number(self):
        line = [counters(4), move(0, 0, 9, 1, 0, 1, 1, 1, 2, 1, 2, 3)]
        self.assertEqual(last(*line, form(0, 0)), [1, 1, 0, 1, 0, 0, 0, 9])
        self.assertEqual(last(*line, form(0, 1)), [2, 1, 0, 1, 1, 0, 1, 0, 1, 0, 10])
        self.assertEqual(last(*line, form(0, 2)), [3, 1, 0, 1, 2, 0, 1, 1, 2, 1, 0, 3, 0, 12])
        self.assertEqual(last(*line, form(0, 3)), [4, 1, 0, 1, 3, 0, 1, 2, 3, 1, 1, 5, 1, 0, 6, 0, 15])

    def test_each_tail_to_a_counter(self):
        line = [counters(4), move(1, 1, 0, 7, 1, 0, 1, 1, 1, 2, 1, 2, 3)]
        self.assertEqual(last(*line, form(1, 0)), [0, 1, 7, 1, 0, 0])
        self.assertEqual(last(*line, form(1, 1)), [1, 1, 7, 1, 1, 0, 1, 0, 1])
        self.assertEqual(last(*line, form(1, 2)), [2, 1, 7, 1, 2, 0, 1, 1, 2, 1, 0, 3])
        self.assertEqual(last(*line, form(1, 3)), [3, 1, 7, 1, 3, 0, 1, 2, 3, 1, 1, 5, 1, 0, 6])

    def test_each_circle(self):
        self.assertEqual(last(counters(2), move(0, 1, 1, 3, 1, 0, -4), form(0, 1)), [0, 2, -1, 1, 1, 0, 1, 0, -4])
        line = [counters(3), move(0, 1, 1, 1, 1, 2, 2, 1, 0, 4)]
        self.assertEqual(last(*line, form(0, 0)), [0, 3, 7, 1, 0, 0, 1, 1, 1, 1, 2, 3])
        self.assertEqual(last(*line, form(0, 2)), [0, 3, 7, 1, 2, 0, 1, 0, 4, 1, 1, 5])
        line = [counters(4), move(0, 1, 1, 1, 1, 2, 2, 1, 3, 4, 1, 0, 8)]
        self.assertEqual(last(*line, form(0, 3)), [0, 4, 15, 1, 3, 0, 1, 0, 8, 1, 1, 9, 1, 2, 11])

    def test_a_circle_whose_numbers_would_come_again_sooner(self):
        # The least p is that of whose value comes, even where the numbers alone come again after 1 or 2.
        line = [counters(4), move(0, 1, 1, 5, 1, 2, 5, 1, 3, 5, 1, 0, 5)]
        self.assertEqual(last(*line, form(0, 0)), [0, 4, 20, 1, 0, 0, 1, 1, 5, 1, 2, 10, 1, 3, 15])

    def test_tail_and_circle(self):
        line = [counters(4), move(0, 1, 1, 1, 1, 2, 2, 1, 3, 4, 1, 1, 8)]
        self.assertEqual(last(*line, form(0, 0)), [1, 3, 14, 1, 0, 0, 1, 1, 1, 1, 2, 3, 1, 3, 7])
        line = [counters(4), move(0, 1, 1, 1, 1, 2, 2, 1, 3, 4, 1, 2, 8)]
        self.assertEqual(last(*line, form(0, 0)), [2, 2, 12, 1, 0, 0, 1, 1, 1, 1, 2, 3, 1, 3, 7])

    def test_the_held_values_are_no_part_of_it(self):
        self.assertEqual(last(move(0, 1, 0, 5), values(1000), form(0, 0)), [0, 1, 5, 1, 0, 0])

    def test_each_move_has_its_own(self):
        answered = ask(move(0, 1, 0, 5), move(1, 0, 6), form(0, 0), form(1, 0))
        self.assertEqual(answered[-2:], [[0, 1, 5, 1, 0, 0], [1, 1, 0, 1, 0, 0, 0, 6]])


class RefusalTest(RefusalCase):
    def test_no_such_move(self):
        for which in (-1, 2, -FAR, FAR):
            self.refused(-2, form(which, 0), 2)
            self.refused(-2, form(which, 1), 2)

    def test_no_such_counter(self):
        for counter in (-1, -2, 2, 3, 4, -FAR, FAR):
            self.refused(-3, form(0, counter), 2)
            self.refused(-3, form(1, counter), 2)

    def test_which_is_looked_at_first(self):
        for which in (-1, 2, -FAR, FAR):
            for counter in (-1, 2, -FAR, FAR):
                self.refused(-2, form(which, counter), 2)


if __name__ == "__main__":
    unittest.main()
