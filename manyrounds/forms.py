"""Closed forms: what all the powers of a move give one counter, and after which round it first has some value."""

from manyrounds.moves import given_behind
from manyrounds.moves import given_value
from manyrounds.moves import move_numbers


class Form:
    """What the first powers give a counter: a tail, then one circle, which comes again with a steady amount more."""

    def __init__(self, tail, amount, powers):
        self.tail = tail
        self.amount = amount
        self.powers = powers

    def circle(self):
        """After how many powers the circle comes again."""
        return len(self.powers) - self.tail


def first_alike(powers, given):
    """The least place in powers that differs from given by the number alone; None if there's none."""
    for place, earlier in enumerate(powers):
        if earlier[:-1] == given[:-1]:
            return place
    return None


def form_of(move, counter):
    """The counter's form by the move."""
    powers = [(1, counter, 0)]
    following = given_behind(move, powers[-1])
    tail = first_alike(powers, following)
    # Whose value the next power gives depends only on whose value this one gives: so the first that
    # comes again closes the circle, and none ahead of it ever comes again.
    while tail is None:
        powers.append(following)
        following = given_behind(move, following)
        tail = first_alike(powers, following)
    return Form(tail, following[-1] - powers[tail][-1], powers)


def form_numbers(form):
    """The form as it is answered: t, p, d, and what the first t + p powers give."""
    return [form.tail, form.circle(), form.amount] + move_numbers(form.powers)


def circles_until_equal(start, amount, value):
    """How often the amount is added to start until it's just the value; None if it never is."""
    missing = value - start
    if missing == 0:
        return 0
    if amount == 0 or missing % amount != 0 or missing // amount < 0:
        return None
    return missing // amount


def circles_until_at_least(start, amount, value):
    """How often the amount is added to start until it's at least the value; None if it never is."""
    missing = value - start
    if missing <= 0:
        return 0
    if amount <= 0:
        return None
    return (missing + amount - 1) // amount


def first_round(form, held, value, circles_until):
    """The least n after which the counter has come to the value from the held ones on; None if there's none.

    circles_until is one of the two functions above: it says when a counter has come to a value.
    """
    found = []
    for n, given in enumerate(form.powers):
        # What a power of the tail gives doesn't come again: adding nothing looks at it just once.
        amount = form.amount if n >= form.tail else 0
        circles = circles_until(given_value(given, held), amount, value)
        if circles is not None:
            found.append(n + circles * form.circle())
    return min(found, default=None)
