"""How calls are handed in and answers given back, and that nothing is kept or changed."""

import unittest

from manyrounds.rounds import answers

from lines import (
    FAR, MILLION_MILLION, after, ask, at_least, both, commute, counters, everything, form, go, join, last, move, order,
    power, returns, turn, values, when, written,
)

SET = [
    counters(3),
    move(0, 1, 1, 1, 1, 2, 2, 0, 3),
    move(1, 1, 1, 4, 1, 0, 5, 1, 2, -6),
    values(1, 2, 3),
]

LINE = [
    *SET,
    after(0, 2),
    power(1, MILLION_MILLION),
    form(0, 0),
    both(),
    commute(),
    order(1),
    turn(1),
    returns(0),
    when(1, 0, 10),
    at_least(1, 1, FAR),
    join(),
    go(1, 1000),
    join(),
    go(0, 1),
    move(2, 1, 2, 3),
    values(),
    go(1, MILLION_MILLION),
    go(0, FAR),
    counters(FAR),
]


class OnlyRead(list):
    """A list that can't be changed."""

    def refuse(self, *numbers):
        raise AssertionError("what is handed in is changed")

    append = clear = extend = insert = pop = remove = reverse = sort = refuse
    __setitem__ = __delitem__ = __iadd__ = __imul__ = refuse


class BeginningTest(unittest.TestCase):
    def test_any_call_first(self):
        firsts = [
            (counters(2), [2]),
            (counters(0), [-1]),
            (move(0, 1, 0, 4), [0]),
            (move(1, 0, 4), [0]),
            (move(0, 1, 1, 4), [-1]),
            (move(2, 0, 4), [-2]),
            (values(3), [0]),
            (values(), [-1]),
            (values(1, 2), [-1]),
            (after(0, MILLION_MILLION), [0, 0]),
            (after(1, 0), [0, 0]),
            (power(0, MILLION_MILLION), [1, 0, 0]),
            (power(1, 1), [1, 0, 0]),
            (form(0, 0), [0, 1, 0, 1, 0, 0]),
            (form(1, 0), [0, 1, 0, 1, 0, 0]),
            (form(1, 1), [-3]),
            (both(), [1, 0, 0]),
            (commute(), [1]),
            (order(0), [1, 1]),
            (order(2), [-2]),
            (turn(1), [1, 1, 0, 0]),
            (turn(-1), [-2]),
            (returns(0), [1, 1]),
            (returns(2), [-2]),
            (when(0, 0, 0), [1, 0]),
            (when(1, 0, 1), [0]),
            (when(0, 1, 0), [-3]),
            (at_least(1, 0, -FAR), [1, 0]),
            (at_least(0, 0, 1), [0]),
            (at_least(2, 1, 0), [-2]),
            (join(), [1, 0, 0]),
            (go(0, MILLION_MILLION), [0, 0]),
            (go(1, -1), [-4]),
        ]
        for call, answer in firsts:
            self.assertEqual(answers(call), [len(answer)] + answer)


class LengthTest(unittest.TestCase):
    def test_a_hundred_calls(self):
        calls = [counters(1), move(0, 1, 0, 7)]
        expected = [[1], [0]]
        for n in range(49):
            calls += [values(n), after(0, n)]
            expected += [[0], [0, 8 * n]]
        self.assertEqual(len(calls), 100)
        self.assertEqual(ask(*calls), expected)

    def test_the_longest_list(self):
        calls = [move(FAR, *[FAR] * 20)] * 100
        self.assertEqual(len(written(calls)), 2300)
        self.assertEqual(ask(*calls), [[-2]] * 100)

    def test_a_hundred_long_answers(self):
        chain = [1, 1, 1, 1, 2, 1, 1, 3, 1, 0, 1]
        form_answer = [4, 1, 0, 1, 0, 0, 1, 1, 1, 1, 2, 2, 1, 3, 3, 0, 4]
        calls = [counters(4), move(0, *chain)] + [form(0, 0)] * 98
        self.assertEqual(ask(*calls), [[4], [0]] + [form_answer] * 98)

    def test_the_call_behind_a_refused_one(self):
        refused = [
            (counters(9), -1),
            (move(0), -1),
            (move(0, *range(20)), -1),
            (move(7, *range(20)), -2),
            (values(), -1),
            (values(*range(10)), -1),
            (after(2, 6), -2),
            (after(0, -1), -4),
            (power(2, 6), -2),
            (power(0, -1), -4),
            (form(2, 6), -2),
            (form(0, 6), -3),
            (order(6), -2),
            (turn(6), -2),
            (returns(6), -2),
            (when(2, 6, 6), -2),
            (when(0, 6, 6), -3),
            (at_least(2, 6, 6), -2),
            (at_least(0, 6, 6), -3),
            (go(2, 6), -2),
            (go(0, -1), -4),
        ]
        for call, number in refused:
            self.assertEqual(ask(call, call, both()), [[number], [number], [1, 0, 0]])


class NothingKeptTest(unittest.TestCase):
    def test_what_is_handed_in_is_the_same_behind_it(self):
        calls = written(LINE)
        before = list(calls)
        answers(calls)
        self.assertEqual(calls, before)

    def test_what_is_handed_in_is_not_changed_for_a_while_either(self):
        calls = written(LINE)
        self.assertEqual(answers(OnlyRead(calls)), answers(calls))

    def test_a_second_time_answers_like_the_first(self):
        calls = written(LINE)
        first = answers(calls)
        copied = list(first)
        self.assertEqual(answers(calls), copied)
        first.append(5)
        self.assertEqual(answers(calls), copied)

    def test_another_list_begins_with_a_new_object(self):
        ask(*LINE)
        self.assertEqual(ask(after(0, 3), power(0, 1), power(1, 1)), [[0, 0], [1, 0, 0], [1, 0, 0]])


class NothingChangedTest(unittest.TestCase):
    def test_calls_that_only_answer(self):
        shown = everything(3)
        before = ask(*SET, *shown)[-len(shown):]
        self.assertEqual(before, [[0, 1, 2, 3], SET[1][3:], SET[2][3:], [1, 1, 0, 1, 2, 0, 0, 3], [-3]])
        only_answer = [
            after(0, 5), after(1, MILLION_MILLION), after(5, 5), after(0, -5),
            power(0, 5), power(1, MILLION_MILLION), power(5, 5), power(0, -5),
            form(0, 0), form(1, 2), form(5, 0), form(0, 5), both(), commute(),
            order(0), order(1), order(5), turn(0), turn(1), turn(5), returns(0), returns(1), returns(5),
            when(0, 0, 3), when(1, 1, 10 ** 9), when(5, 0, 0), when(0, 5, 0),
            at_least(0, 0, 3), at_least(1, 1, 10 ** 9), at_least(5, 0, 0), at_least(0, 5, 0),
        ]
        for call in only_answer:
            self.assertEqual(ask(*SET, call, *shown)[-len(shown):], before, call)
            self.assertEqual(last(*SET, call, call), last(*SET, call))


if __name__ == "__main__":
    unittest.main()
