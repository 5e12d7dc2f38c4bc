"""The calls on one object with counters, held values and two moves.

Each function answer_... takes all that belongs to its call from the reader before it looks for refusals,
so that the next call is found whether this one is refused or not.
"""

from manyrounds.moves import first_difference
from manyrounds.moves import form_of
from manyrounds.moves import move_numbers
from manyrounds.moves import own_move
from manyrounds.moves import power_of
from manyrounds.moves import put_together
from manyrounds.moves import read_move
from manyrounds.moves import values_after
from manyrounds.reader import Reader

MOST_COUNTERS = 4
LARGEST_HELD = 1000000
MOST_ROUNDS = 1000000000000

NOT_ALLOWED = -1
NO_SUCH_MOVE = -2
NO_SUCH_COUNTER = -3
NO_SUCH_ROUND = -4


class Counters:
    """The held values, one for each counter, and the two moves."""

    def __init__(self, count):
        self.held = []
        self.moves = []
        self.begin(count)

    def begin(self, count):
        """So many counters from now on, with values and moves as at first."""
        self.held = [0 for counter in range(count)]
        self.moves = [own_move(count), own_move(count)]


def is_which(which):
    return which in (0, 1)


def are_values(numbers, count):
    """Whether numbers are whole values that may be held, one for each of count counters."""
    return len(numbers) == count and all([-LARGEST_HELD <= number <= LARGEST_HELD for number in numbers])


def rounds_refusal(which, n):
    """The refusal of a call with which and a number of rounds; 0 if there's none."""
    if not is_which(which):
        return NO_SUCH_MOVE
    if not 0 <= n <= MOST_ROUNDS:
        return NO_SUCH_ROUND
    return 0


def counter_refusal(counters, which, counter):
    """The refusal of a call with which and a counter; 0 if there's none."""
    if not is_which(which):
        return NO_SUCH_MOVE
    if not 0 <= counter < len(counters.held):
        return NO_SUCH_COUNTER
    return 0


def answer_counters(counters, reader):
    n = reader.take()
    if not 1 <= n <= MOST_COUNTERS:
        return [NOT_ALLOWED]
    counters.begin(n)
    return [n]


def answer_move(counters, reader):
    which = reader.take()
    numbers = reader.take_row()
    if not is_which(which):
        return [NO_SUCH_MOVE]
    move = read_move(numbers, len(counters.held))
    if move is None:
        return [NOT_ALLOWED]
    counters.moves[which] = move
    return [0]


def answer_values(counters, reader):
    numbers = reader.take_row()
    if not are_values(numbers, len(counters.held)):
        return [NOT_ALLOWED]
    counters.held = numbers
    return [0]


def answer_after(counters, reader):
    which = reader.take()
    n = reader.take()
    refusal = rounds_refusal(which, n)
    if refusal < 0:
        return [refusal]
    return [0] + values_after(counters.moves[which], n, counters.held)


def answer_power(counters, reader):
    which = reader.take()
    n = reader.take()
    refusal = rounds_refusal(which, n)
    if refusal < 0:
        return [refusal]
    return move_numbers(power_of(counters.moves[which], n))


def answer_form(counters, reader):
    which = reader.take()
    counter = reader.take()
    refusal = counter_refusal(counters, which, counter)
    if refusal < 0:
        return [refusal]
    return form_of(counters.moves[which], counter)


def answer_both(counters, reader):
    return move_numbers(put_together(counters.moves[0], counters.moves[1]))


def answer_commute(counters, reader):
    one = put_together(counters.moves[0], counters.moves[1])
    other = put_together(counters.moves[1], counters.moves[0])
    counter = first_difference(one, other)
    if counter is None:
        return [1]
    return [0, counter]


# By the number that each call has in the list.
ANSWERS = {
    0: answer_counters,
    1: answer_move,
    2: answer_values,
    3: answer_after,
    4: answer_power,
    5: answer_form,
    6: answer_both,
    7: answer_commute,
}


def answers(calls):
    """What the calls on a new object answer: for each call how many numbers, then these."""
    counters = Counters(1)
    reader = Reader(calls)
    numbers = []
    while not reader.at_end():
        answer = ANSWERS[reader.take()]
        answered = answer(counters, reader)
        numbers.append(len(answered))
        numbers.extend(answered)
    return numbers
