"""The calls on one object with counters, held values and two moves.

Each function answer_... takes all that belongs to its call from the reader before it looks for refusals,
so that the next call is found whether this one is refused or not.
"""

from manyrounds.forms import circles_until_at_least
from manyrounds.forms import circles_until_equal
from manyrounds.forms import first_round
from manyrounds.forms import form_numbers
from manyrounds.forms import form_of
from manyrounds.moves import first_difference
from manyrounds.moves import move_numbers
from manyrounds.moves import order_of
from manyrounds.moves import own_move
from manyrounds.moves import power_of
from manyrounds.moves import put_together
from manyrounds.moves import read_move
from manyrounds.moves import return_of
from manyrounds.moves import turned_round
from manyrounds.moves import values_after
from manyrounds.reader import Reader

MOST_COUNTERS = 4
LARGEST_SET = 1000000
LARGEST_REACHED = 1000000000000
LARGEST_JOINED = 1000000
MOST_ROUNDS = 1000000000000

NOT_ALLOWED = -1
NO_SUCH_MOVE = -2
NO_SUCH_COUNTER = -3
NO_SUCH_ROUND = -4
TOO_LARGE_TO_JOIN = -6
BEYOND = -7


class Counters:
    """The held values, one for each counter, and the two moves."""

    def __init__(self, count):
        self.held = []
        self.moves = []
        self.begin(count)

    def begin(self, count):
        """So many counters from now on, with values and moves as at first."""
        self.held = [0 for counter in range(count)]
        self.moves = [own_move(count), own_move(count)]


def is_which(which):
    return which in (0, 1)


def are_within(numbers, largest):
    """Whether none of the numbers is above largest or below -largest."""
    return all([-largest <= number <= largest for number in numbers])


def rounds_refusal(which, n):
    """The refusal of a call with which and a number of rounds; 0 if there's none."""
    if not is_which(which):
        return NO_SUCH_MOVE
    if not 0 <= n <= MOST_ROUNDS:
        return NO_SUCH_ROUND
    return 0


def counter_refusal(counters, which, counter):
    """The refusal of a call with which and a counter; 0 if there's none."""
    if not is_which(which):
        return NO_SUCH_MOVE
    if not 0 <= counter < len(counters.held):
        return NO_SUCH_COUNTER
    return 0


def found_or_none(n):
    """The answer of a call that looks for the least n; None stands for there being none."""
    if n is None:
        return [0]
    return [1, n]


def answer_counters(counters, reader):
    n = reader.take()
    if not 1 <= n <= MOST_COUNTERS:
        return [NOT_ALLOWED]
    counters.begin(n)
    return [n]


def answer_move(counters, reader):
    which = reader.take()
    numbers = reader.take_row()
    if not is_which(which):
        return [NO_SUCH_MOVE]
    move = read_move(numbers, len(counters.held))
    if move is None:
        return [NOT_ALLOWED]
    counters.moves[which] = move
    return [0]


def answer_values(counters, reader):
    numbers = reader.take_row()
    if len(numbers) != len(counters.held) or not are_within(numbers, LARGEST_SET):
        return [NOT_ALLOWED]
    counters.held = numbers
    return [0]


def answer_after(counters, reader):
    which = reader.take()
    n = reader.take()
    refusal = rounds_refusal(which, n)
    if refusal < 0:
        return [refusal]
    return [0] + values_after(counters.moves[which], n, counters.held)


def answer_power(counters, reader):
    which = reader.take()
    n = reader.take()
    refusal = rounds_refusal(which, n)
    if refusal < 0:
        return [refusal]
    return move_numbers(power_of(counters.moves[which], n))


def answer_form(counters, reader):
    which = reader.take()
    counter = reader.take()
    refusal = counter_refusal(counters, which, counter)
    if refusal < 0:
        return [refusal]
    return form_numbers(form_of(counters.moves[which], counter))


def answer_both(counters, reader):
    return move_numbers(put_together(counters.moves[0], counters.moves[1]))


def answer_commute(counters, reader):
    one = put_together(counters.moves[0], counters.moves[1])
    other = put_together(counters.moves[1], counters.moves[0])
    counter = first_difference(one, other)
    if counter is None:
        return [1]
    return [0, counter]


def answer_order(counters, reader):
    which = reader.take()
    if not is_which(which):
        return [NO_SUCH_MOVE]
    return found_or_none(order_of(counters.moves[which]))


def answer_turn(counters, reader):
    which = reader.take()
    if not is_which(which):
        return [NO_SUCH_MOVE]
    turned = turned_round(counters.moves[which])
    if turned is None:
        return [0]
    return [1] + move_numbers(turned)


def answer_returns(counters, reader):
    which = reader.take()
    if not is_which(which):
        return [NO_SUCH_MOVE]
    return found_or_none(return_of(counters.moves[which], counters.held))


def answer_first_round(counters, reader, circles_until):
    """The answer of when and at_least, which differ only in when a counter has come to the value."""
    which = reader.take()
    counter = reader.take()
    value = reader.take()
    refusal = counter_refusal(counters, which, counter)
    if refusal < 0:
        return [refusal]
    form = form_of(counters.moves[which], counter)
    return found_or_none(first_round(form, counters.held, value, circles_until))


def answer_when(counters, reader):
    return answer_first_round(counters, reader, circles_until_equal)


def answer_at_least(counters, reader):
    return answer_first_round(counters, reader, circles_until_at_least)


def answer_join(counters, reader):
    joined = put_together(counters.moves[0], counters.moves[1])
    if not are_within([given[-1] for given in joined], LARGEST_JOINED):
        return [TOO_LARGE_TO_JOIN]
    counters.moves[0] = joined
    return move_numbers(joined)


def answer_go(counters, reader):
    which = reader.take()
    n = reader.take()
    refusal = rounds_refusal(which, n)
    if refusal < 0:
        return [refusal]
    reached = values_after(counters.moves[which], n, counters.held)
    if not are_within(reached, LARGEST_REACHED):
        return [BEYOND]
    counters.held = reached
    return [0] + reached


# By the number that each call has in the list.
ANSWERS = {
    0: answer_counters,
    1: answer_move,
    2: answer_values,
    3: answer_after,
    4: answer_power,
    5: answer_form,
    6: answer_both,
    7: answer_commute,
    8: answer_order,
    9: answer_turn,
    10: answer_returns,
    11: answer_when,
    12: answer_at_least,
    13: answer_join,
    14: answer_go,
}


def answers(calls):
    """What the calls on a new object answer: for each call how many numbers, then these."""
    counters = Counters(1)
    reader = Reader(calls)
    numbers = []
    while not reader.at_end():
        answer = ANSWERS[reader.take()]
        answered = answer(counters, reader)
        numbers.append(len(answered))
        numbers.extend(answered)
    return numbers
