"""Tables of signs: rows that tell the signs of a family on all integers, and the first number of each kind."""

from whichheld.bounds import MAX_PERIOD
from whichheld.forms import bare_test, is_between, is_integer
from whichheld.programs import each_statement, tests_with
from whichheld.runs import sign_parts, tighter_high, tighter_low


def signs_of(family):
    """A tuple of rows (rest, by, low, high, signs) that tells the signs of the family."""
    table = table_of(family)
    return tuple([(rest, len(table), *piece) for rest, pieces in enumerate(table) for piece in pieces])


def kinds_of(family):
    """The tuple of (signs, number) for all signs of the family, ascending, with the first number of each."""
    found = {}
    for rest, by, low, high, signs in signs_of(family):
        number = first_of(rest, by, low, high)
        if signs not in found or order_of(number) < order_of(found[signs]):
            found[signs] = number
    return tuple(sorted(found.items()))


def signs_hold(family, value):
    """Whether value, which may be any value, is a tuple of rows that tells the signs of the family."""
    if not isinstance(value, tuple) or not all([is_row(row) for row in value]):
        return False
    if not is_once_each([fitted(row) for row in value]):
        return False
    table = table_of(family)
    return all([has_signs(row, table) for row in value])


def order_of(number):
    """How many integers come ahead of the number in the order of inputs."""
    return 2 * number - 1 if number > 0 else -2 * number


def first_of(rest, by, low, high):
    """The first integer with this rest from low to high, in the order of inputs; there is one."""
    start = tighter_low(low, 0)
    number = start + (rest - start) % by
    end = tighter_high(high, -1)
    other = end - (end - rest) % by
    if high is not None and high < number:
        return other
    if low is not None and other < low:
        return number
    return min((number, other), key=order_of)


def has_one(rest, by, low, high):
    """Whether there is an integer with this rest from low to high, where None stands for no bound."""
    return low is None or high is None or low + (rest - low) % by <= high


# The table of a family is a list: its length is a period of the family, and at
# each rest by this period stands the list of the pieces (low, high, signs) of
# the integers with this rest, ascending, each with at least one integer.


def table_of(family):
    """The table of the family."""
    columns = [column_of(program) for program in family]
    period = 1
    for column in columns:
        period = least_common(period, len(column))
    table = []
    for rest in range(period):
        pieces = [(None, None, ())]
        for column in columns:
            pieces = crossed(pieces, column[rest % len(column)], rest, period)
        table.append(joined(pieces))
    return table


def column_of(program):
    """The table of the family of this program alone."""
    period = 1
    for place, depth, statement in each_statement(program):
        if tests_with(statement, "rest"):
            period = least_common(period, bare_test(statement[1])[2])
    column = [[] for rest in range(period)]
    for sign, (rests, low, high) in sign_parts(program, period):
        for rest in rests:
            if has_one(rest, period, low, high):
                column[rest].append((low, high, (sign,)))
    return column


def crossed(pieces, others, rest, by):
    """The pieces that lie in a piece and in one of the others at once, with the signs of both."""
    found = []
    for low, high, signs in pieces:
        for least, most, more in others:
            bottom, top = tighter_low(low, least), tighter_high(high, most)
            if has_one(rest, by, bottom, top):
                found.append((bottom, top, signs + more))
    return found


def joined(pieces):
    """The pieces with neighbours of the same signs in one."""
    found = []
    for low, high, signs in pieces:
        if found and found[-1][2] == signs:
            low = found.pop()[0]
        found.append((low, high, signs))
    return found


def least_common(one, other):
    """The least common multiple of two positive integers."""
    return one // bezout(one, other)[0] * other


def bezout(one, other):
    """(factor, times): the greatest common factor, and times * one leaves the same rest by other as factor."""
    times, after = 1, 0
    while other:
        quotient = one // other
        one, other = other, one - quotient * other
        times, after = after, times - quotient * after
    return (one, times)


def is_row(value):
    """Whether value, which may be any value, is a row."""
    if not isinstance(value, tuple) or len(value) != 5:
        return False
    rest, by, low, high, signs = value
    if not is_between(by, 1, MAX_PERIOD) or not is_between(rest, 0, by - 1):
        return False
    if not all([bound is None or is_integer(bound) for bound in (low, high)]):
        return False
    if not isinstance(signs, tuple) or not all([is_between(sign, -1, 1) for sign in signs]):
        return False
    return has_one(rest, by, low, high)


def has_signs(row, table):
    """Whether the signs of the row are those of the table on all integers that the row is about."""
    rest, by, low, high, signs = row
    period = len(table)
    times = period // bezout(by, period)[0]
    # A rest by the common multiple of both leaves one rest by the period alone.
    for number in [rest + by * k for k in range(times)]:
        for least, most, others in table[number % period]:
            if others != signs and has_one(number, by * times, tighter_low(low, least), tighter_high(high, most)):
                return False
    return True


def fitted(row):
    """The row without its signs, and with a bound above that has its rest itself."""
    rest, by, low, high = row[:4]
    if high is not None:
        high -= (high - rest) % by
    return (rest, by, low, high)


def is_once_each(rows):
    """Whether each integer is in just one of the fitted rows."""
    # What lies apart fills the integers just if it has as many of them.
    return is_apart(rows) and is_enough(rows)


def is_apart(rows):
    """Whether no integer is in two of the fitted rows."""
    groups = {}
    for rest, by, low, high in sorted(rows, key=lambda row: (row[2] is not None, row[2])):
        groups.setdefault((rest, by), []).append((low, high))
    if not all([is_ascending(bounds) for bounds in groups.values()]):
        return False
    heads = list(groups)
    for at, head in enumerate(heads):
        for other in heads[:at]:
            both = common_rest(head, other)
            if both is not None and is_shared(groups[head], groups[other], both):
                return False
    return True


def is_ascending(bounds):
    """Whether each (low, high) but the last ends ahead of the next one."""
    for (low, high), (least, most) in zip(bounds, bounds[1:]):
        if high is None or least is None or least <= high:
            return False
    return True


def common_rest(one, other):
    """The (rest, by) of the integers that have both of these, or None if there are none."""
    (rest, by), (wanted, period) = one, other
    factor, times = bezout(by, period)
    if (wanted - rest) % factor != 0:
        return None
    steps = period // factor
    return (rest + by * ((wanted - rest) // factor * times % steps), by * steps)


def is_shared(bounds, others, head):
    """Whether an integer with this (rest, by) is from low to high in one of the ascending bounds and one of others."""
    rest, by = head
    at, to = 0, 0
    while at < len(bounds) and to < len(others):
        (low, high), (least, most) = bounds[at], others[to]
        top = tighter_high(high, most)
        if has_one(rest, by, tighter_low(low, least), top):
            return True
        if high == top:
            at += 1
        else:
            to += 1
    return False


def is_enough(rows):
    """Whether fitted rows that lie apart have as many integers as there are."""
    if not is_whole([by for rest, by, low, high in rows if low is None]):
        return False
    if not is_whole([by for rest, by, low, high in rows if high is None]):
        return False
    bounds = [bound for row in rows for bound in row[2:] if bound is not None]
    if not bounds:
        return True
    first, last = min(bounds), max(bounds)
    return sum([many_between(row, first, last) for row in rows]) == last - first + 1


def is_whole(periods):
    """Whether one in each of these many integers comes to all of them together."""
    product = 1
    for period in periods:
        product *= period
    return sum([product // period for period in periods]) == product


def many_between(row, first, last):
    """How many integers from first to last are in the fitted row, whose bounds are between these."""
    rest, by, low, high = row
    start = first if low is None else low
    end = last - (last - rest) % by if high is None else high
    return (end - start) // by + 1
