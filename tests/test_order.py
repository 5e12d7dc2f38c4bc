"""order, returns and turn: what they answer, and point 1."""

import unittest

from lines import FAR, RefusalCase, ask, both, counters, go, last, move, order, returns, turn, values

CIRCLES = {
    1: [[1, 0, 0]],
    2: [[1, 1, 5, 1, 0, -5], [1, 1, 0, 1, 0, 0, 1, 2, 0], [1, 1, 7, 1, 0, -7, 1, 3, 9, 1, 2, -9]],
    3: [[1, 1, 5, 1, 2, -2, 1, 0, -3], [1, 0, 0, 1, 2, 1, 1, 3, 2, 1, 1, -3]],
    4: [[1, 1, 99, 1, 2, -99, 1, 3, 50, 1, 0, -50], [1, 2, 0, 1, 3, 0, 1, 1, 0, 1, 0, 0]],
}


def how_many(numbers):
    """How many counters a move has that gives only counters' values."""
    return len(numbers) // 3


class OrderTest(unittest.TestCase):
    def test_at_first(self):
        for count in (1, 2, 3, 4):
            self.assertEqual(last(counters(count), order(0)), [1, 1])
            self.assertEqual(last(counters(count), order(1)), [1, 1])

    def test_each_that_can_come(self):
        for n, moves in CIRCLES.items():
            for numbers in moves:
                for which in (0, 1):
                    line = [counters(how_many(numbers)), move(which, *numbers), order(which), order(1 - which)]
                    self.assertEqual(ask(*line)[-2:], [[1, n], [1, 1]], numbers)

    def test_numbers_that_do_not_come_to_0(self):
        for number in (-99, -1, 1, 99):
            self.assertEqual(last(move(0, 1, 0, number), order(0)), [0])
            self.assertEqual(last(counters(2), move(0, 1, 1, number, 1, 0, 0), order(0)), [0])
            self.assertEqual(last(counters(3), move(0, 1, 1, 0, 1, 0, 0, 1, 2, number), order(0)), [0])
            self.assertEqual(last(counters(4), move(0, 1, 1, 0, 1, 2, 0, 1, 3, 0, 1, 0, number), order(0)), [0])

    def test_counters_that_do_not_come_again(self):
        self.assertEqual(last(move(0, 0, 0), order(0)), [0])
        self.assertEqual(last(counters(2), move(0, 1, 0, 0, 1, 0, 0), order(0)), [0])
        self.assertEqual(last(counters(3), move(0, 1, 1, 0, 1, 0, 0, 0, 0), order(0)), [0])
        self.assertEqual(last(counters(4), move(0, 1, 1, 0, 1, 2, 0, 1, 0, 0, 1, 0, 0), order(0)), [0])

    def test_the_held_values_are_no_part_of_it(self):
        self.assertEqual(last(move(0, 0, 5), values(5), order(0)), [0])
        self.assertEqual(last(counters(2), move(0, 1, 1, 0, 1, 0, 0), values(3, 3), order(0)), [1, 2])
        self.assertEqual(last(counters(2), move(0, 1, 1, 3, 1, 0, -3), values(5, 2), order(0)), [1, 2])


class ReturnsTest(unittest.TestCase):
    def test_at_first(self):
        for count in (1, 2, 3, 4):
            self.assertEqual(last(counters(count), returns(0)), [1, 1])
            self.assertEqual(last(counters(count), returns(1)), [1, 1])

    def test_each_that_can_come(self):
        for n, moves in CIRCLES.items():
            for numbers in moves:
                for which in (0, 1):
                    held = [1000, 20, 300, -4000][:how_many(numbers)]
                    line = [counters(how_many(numbers)), move(which, *numbers), values(*held)]
                    self.assertEqual(ask(*line, returns(which), returns(1 - which))[-2:], [[1, n], [1, 1]], numbers)

    def test_values_that_come_back_by_a_power_that_changes_others(self):
        self.assertEqual(last(move(0, 0, 5), values(5), returns(0)), [1, 1])
        self.assertEqual(last(counters(2), move(0, 1, 1, 0, 1, 0, 0), values(3, 3), returns(0)), [1, 1])
        self.assertEqual(last(counters(2), move(0, 1, 1, 3, 1, 0, -3), values(5, 2), returns(0)), [1, 1])
        self.assertEqual(last(counters(3), move(0, 1, 0, 0, 1, 0, 4, 1, 1, 4), values(1, 5, 9), returns(0)), [1, 1])
        circle = move(0, 1, 1, 0, 1, 2, 0, 1, 3, 0, 1, 0, 0)
        self.assertEqual(last(counters(4), circle, values(1, 2, 1, 2), returns(0)), [1, 2])
        self.assertEqual(last(counters(4), circle, values(7, 7, 7, 7), returns(0)), [1, 1])
        # Counter 2 follows the circle of the others, which alone comes back after 2 rounds.
        follower = [counters(3), move(0, 1, 1, 0, 1, 0, 0, 1, 0, 0), values(1, 2, 2)]
        self.assertEqual(last(*follower, returns(0)), [1, 2])
        self.assertEqual(last(*follower, order(0)), [0])

    def test_none(self):
        self.assertEqual(last(move(0, 1, 0, 1), returns(0)), [0])
        self.assertEqual(last(move(0, 1, 0, -1), returns(0)), [0])
        self.assertEqual(last(move(0, 0, 5), values(4), returns(0)), [0])
        self.assertEqual(last(counters(2), move(0, 1, 1, 3, 1, 0, 0), values(10, 20), returns(0)), [0])
        self.assertEqual(last(counters(3), move(0, 1, 1, 0, 1, 0, 0, 1, 0, 0), values(1, 2, 3), returns(0)), [0])
        self.assertEqual(last(counters(4), move(0, 1, 0, 0, 1, 1, 0, 1, 2, 0, 1, 3, 1), returns(0)), [0])

    def test_one_value_alone_is_not_enough(self):
        # Counter 0 comes back after 1 round, counter 1 after 2.
        line = [counters(3), move(0, 1, 0, 0, 1, 2, 0, 1, 1, 0), values(4, 5, 6)]
        self.assertEqual(last(*line, returns(0)), [1, 2])

    def test_it_is_the_held_values_that_come_back(self):
        line = [move(0, 0, 5), move(1, 1, 0, 2), returns(0), values(5), returns(0), go(1, 1), returns(0)]
        self.assertEqual(ask(*line)[2:], [[0], [0], [1, 1], [0, 7], [0]])


class TurnTest(unittest.TestCase):
    def test_at_first(self):
        self.assertEqual(last(turn(0)), [1, 1, 0, 0])
        self.assertEqual(last(counters(4), turn(1)), [1, 1, 0, 0, 1, 1, 0, 1, 2, 0, 1, 3, 0])

    def test_turned(self):
        self.assertEqual(last(move(0, 1, 0, 99), turn(0)), [1, 1, 0, -99])
        self.assertEqual(last(move(1, 1, 0, -99), turn(1)), [1, 1, 0, 99])
        self.assertEqual(last(counters(2), move(0, 1, 0, 3, 1, 1, -4), turn(0)), [1, 1, 0, -3, 1, 1, 4])
        self.assertEqual(last(counters(2), move(0, 1, 1, 3, 1, 0, 0), turn(0)), [1, 1, 1, 0, 1, 0, -3])
        line = [counters(3), move(0, 1, 1, 1, 1, 2, 2, 1, 0, 4)]
        self.assertEqual(last(*line, turn(0)), [1, 1, 2, -4, 1, 0, -1, 1, 1, -2])
        line = [counters(4), move(1, 1, 3, 1, 1, 0, 2, 1, 1, -3, 1, 2, 4)]
        self.assertEqual(last(*line, turn(1)), [1, 1, 1, -2, 1, 2, 3, 1, 3, -4, 1, 0, -1])

    def test_a_number_alone(self):
        for number in (-99, 0, 99):
            self.assertEqual(last(move(0, 0, number), turn(0)), [0])
            self.assertEqual(last(counters(2), move(0, 1, 1, 3, 0, number), turn(0)), [0])
            self.assertEqual(last(counters(2), move(0, 0, number, 1, 0, 3), turn(0)), [0])
            self.assertEqual(last(counters(4), move(0, 1, 1, 0, 1, 2, 0, 1, 3, 0, 0, number), turn(0)), [0])

    def test_a_value_given_to_two(self):
        self.assertEqual(last(counters(2), move(0, 1, 0, 0, 1, 0, 0), turn(0)), [0])
        self.assertEqual(last(counters(2), move(0, 1, 1, 4, 1, 1, 4), turn(0)), [0])
        self.assertEqual(last(counters(3), move(0, 1, 1, 0, 1, 0, 0, 1, 1, 0), turn(0)), [0])
        self.assertEqual(last(counters(4), move(0, 1, 3, 0, 1, 2, 0, 1, 1, 0, 1, 3, 0), turn(0)), [0])

    def test_one_behind_the_other_either_way_round(self):
        for moves in CIRCLES.values():
            for numbers in moves + [[1, 0, 17], [1, 1, 8, 1, 0, 9], [1, 2, 3, 1, 1, 4, 1, 3, -5, 1, 0, -6]]:
                count = how_many(numbers)
                own = [number for counter in range(count) for number in (1, counter, 0)]
                turned = last(counters(count), move(0, *numbers), turn(0))
                self.assertEqual(turned[0], 1)
                line = [counters(count), move(0, *numbers), move(1, *turned[1:])]
                self.assertEqual(last(*line, both()), own)
                self.assertEqual(last(*line, turn(1)), [1] + numbers)
                line = [counters(count), move(1, *numbers), move(0, *turned[1:])]
                self.assertEqual(last(*line, both()), own)


class RefusalTest(RefusalCase):
    def test_no_such_move(self):
        for which in (-1, 2, -FAR, FAR):
            for count in (1, 2, 3, 4):
                for call in (order, returns, turn):
                    self.refused(-2, call(which), count)


if __name__ == "__main__":
    unittest.main()
