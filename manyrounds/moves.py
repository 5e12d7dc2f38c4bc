"""Moves of counters: read, put together, done many times, and turned round.

What a counter is given is a tuple in the very order of the document: (0, number) for a number alone,
(1, counter, number) for a counter's old value and a number. A move is a list of these, one for each counter.
"""

LARGEST_IN_MOVE = 99
LAST_TRIED = 12


def own_move(count):
    """The move that gives each counter its own value and 0."""
    return [(1, counter, 0) for counter in range(count)]


def read_given(numbers, start, count):
    """What a counter is given, as it stands in numbers from start on; None if it's nothing that may be given."""
    kind = numbers[start]
    if kind not in (0, 1):
        return None
    length = kind + 2
    given = tuple(numbers[start:start + length])
    if len(given) < length:
        return None
    if kind == 1 and not 0 <= given[1] < count:
        return None
    if not -LARGEST_IN_MOVE <= given[-1] <= LARGEST_IN_MOVE:
        return None
    return given


def read_move(numbers, count):
    """The move of count counters that numbers are as a whole; None if they're none."""
    move = []
    start = 0
    while start < len(numbers):
        given = read_given(numbers, start, count)
        if given is None:
            return None
        move.append(given)
        start += len(given)
    if len(move) != count:
        return None
    return move


def move_numbers(move):
    """The move as it is answered, number by number."""
    numbers = []
    for given in move:
        numbers.extend(given)
    return numbers


def given_behind(first, given):
    """What is given in all, if the move first is done and then given is worked out."""
    if given[0] == 0:
        return given
    earlier = first[given[1]]
    return earlier[:-1] + (earlier[-1] + given[-1],)


def put_together(first, second):
    """The move first, then the move second, as one move."""
    return [given_behind(first, given) for given in second]


def power_of(move, n):
    """The move done n times, as one move."""
    result = own_move(len(move))
    doubled = move
    left = n
    # Halving what is left keeps the steps few, however many rounds there are.
    while left > 0:
        if left % 2 == 1:
            result = put_together(result, doubled)
        doubled = put_together(doubled, doubled)
        left = left // 2
    return result


def given_value(given, held):
    """The value that a counter has from the held values on, if this is what it's given."""
    if given[0] == 0:
        return given[1]
    return held[given[1]] + given[2]


def values_after(move, n, held):
    """The values after n rounds of the move from the held values on."""
    return [given_value(given, held) for given in power_of(move, n)]


def first_difference(one, other):
    """The least counter to which the two moves give otherwise; None if they're the same."""
    for counter, given in enumerate(one):
        if given != other[counter]:
            return counter
    return None


def turned_round(move):
    """The move by which, done behind this one, each counter has its old value; None if there's none."""
    turned = own_move(len(move))
    sources = []
    for counter, given in enumerate(move):
        if given[0] == 0 or given[1] in sources:
            return None
        sources.append(given[1])
        turned[given[1]] = (1, counter, -given[2])
    return turned


def order_of(move):
    """The least n that is tried whose power gives all counters their own value and 0; None if there's none."""
    own = own_move(len(move))
    for n in range(1, LAST_TRIED + 1):
        if power_of(move, n) == own:
            return n
    return None


def return_of(move, held):
    """The least n that is tried after which all values are the held ones; None if there's none."""
    for n in range(1, LAST_TRIED + 1):
        if values_after(move, n, held) == held:
            return n
    return None
