"""Runs: what a program comes to on one number, and by which parts of the integers its sign changes."""

from whichheld.forms import is_integer
from whichheld.programs import places_in


def run(program, number):
    """(total, places): the total, and the places of what was executed, in this order."""
    names = {"n": number}
    total = 0
    places = []
    waiting = numbered(program, 0)[::-1]
    while waiting:
        place, statement = waiting.pop()
        places.append(place)
        if statement[0] == "stop":
            break
        if statement[0] == "set":
            names[statement[1]] = value_of(statement[2], names)
        elif statement[0] == "pay":
            total += value_of(statement[1], names)
        else:
            waiting.extend(entered(statement, place, names)[::-1])
    return (total, tuple(places))


def sign(program, number):
    """The sign of the total: -1, 0 or 1."""
    total = run(program, number)[0]
    return int(total > 0) - int(total < 0)


def numbered(block, place):
    """The list of (place, statement) for the statements of a block that begins at this place."""
    rows = []
    for statement in block:
        rows.append((place, statement))
        place += places_in((statement,))
    return rows


def entered(statement, place, names):
    """The list of (place, statement) of what "if" or "repeat" executes, as often as it does."""
    if statement[0] == "repeat":
        return numbered(statement[2], place + 1) * statement[1]
    if is_true(statement[1], names):
        return numbered(statement[2], place + 1)
    return numbered(statement[3], place + 1 + places_in(statement[2]))


def value_of(expression, names):
    """The value of the expression, where names tells those of the names that are not 0."""
    if is_integer(expression):
        return expression
    if isinstance(expression, str):
        return names.get(expression, 0)
    if expression[0] == "times":
        return expression[1] * value_of(expression[2], names)
    if expression[0] == "plus":
        return value_of(expression[1], names) + value_of(expression[2], names)
    return value_of(expression[1], names) - value_of(expression[2], names)


def is_true(test, names):
    """Whether the test is true."""
    if test[0] == "not":
        return not is_true(test[1], names)
    if test[0] == "less":
        return value_of(test[1], names) < value_of(test[2], names)
    return value_of(test[1], names) % test[2] == test[3]


# As expressions only add, subtract and multiply by constants, each value along
# one way through a program is slope * n + height: the line (slope, height). A
# test parts the inputs at one bound, or by their rests. A part (rests, low,
# high) is about the inputs with one of these rests by a period, from low to
# high, where None stands for no bound.


def sign_parts(program, period):
    """A list of (sign, part) with the signs of the program; each integer is in just one of the parts.

    The period is a multiple of what each "rest" divides by. The parts with one and the same rest ascend.
    """
    found = []
    for total, part in ends_of(program, {"n": (1, 0)}, (0, 0), (list(range(period)), None, None)):
        for is_below, inner in parts_below(total, part):
            if is_below:
                found.append((-1, inner))
            else:
                found.extend([(int(is_above), last) for is_above, last in parts_below(times_line(-1, total), inner)])
    return found


def ends_of(block, lines, total, part):
    """The list of (total, part) for the ways on which the inputs of this part go through the block."""
    for at, statement in enumerate(block):
        if statement[0] == "stop":
            break
        if statement[0] == "set":
            lines = {**lines, statement[1]: line_of(statement[2], lines)}
        elif statement[0] == "pay":
            total = sum_line(total, line_of(statement[1], lines))
        else:
            found = []
            for inner, first in ways_of(statement, lines, part):
                found.extend(ends_of(first + block[at + 1:], lines, total, inner))
            return found
    return [(total, part)]


def ways_of(statement, lines, part):
    """The list of (part, block): what "if" or "repeat" executes for which inputs."""
    if statement[0] == "repeat":
        return [(part, statement[2] * statement[1])]
    return [(inner, statement[2] if truth else statement[3]) for truth, inner in parts_by(statement[1], lines, part)]


def parts_by(test, lines, part):
    """The list of (truth, part): where in the part the test is true and where it is not."""
    if test[0] == "not":
        return [(not truth, inner) for truth, inner in parts_by(test[1], lines, part)]
    if test[0] == "less":
        return parts_below(line_of(("minus", test[1], test[2]), lines), part)
    rests, low, high = part
    slope, height = line_of(test[1], lines)
    found = []
    for truth in (True, False):
        chosen = [rest for rest in rests if ((slope * rest + height) % test[2] == test[3]) == truth]
        if chosen:
            found.append((truth, (chosen, low, high)))
    return found


def parts_below(line, part):
    """The list of (truth, part): where in the part the line is below 0 and where it is not, ascending."""
    rests, low, high = part
    slope, height = line
    if slope == 0:
        return [(height < 0, part)]
    # The last input ahead of which, itself included, the line is on one side.
    last = (-height - 1) // slope if slope > 0 else height // -slope
    found = []
    if low is None or low <= last:
        found.append((slope > 0, (rests, low, tighter_high(high, last))))
    if high is None or last < high:
        found.append((slope < 0, (rests, tighter_low(low, last + 1), high)))
    return found


def line_of(expression, lines):
    """The line of the expression, where lines tells those of the names that are not 0."""
    if is_integer(expression):
        return (0, expression)
    if isinstance(expression, str):
        return lines.get(expression, (0, 0))
    if expression[0] == "times":
        return times_line(expression[1], line_of(expression[2], lines))
    factor = 1 if expression[0] == "plus" else -1
    return sum_line(line_of(expression[1], lines), times_line(factor, line_of(expression[2], lines)))


def times_line(factor, line):
    """The line, multiplied."""
    return (factor * line[0], factor * line[1])


def sum_line(one, other):
    """The sum of two lines."""
    return (one[0] + other[0], one[1] + other[1])


def tighter_low(low, other):
    """The higher one of two bounds below, where None stands for no bound."""
    if low is None or other is None:
        return other if low is None else low
    return max(low, other)


def tighter_high(high, other):
    """The lower one of two bounds above, where None stands for no bound."""
    if high is None or other is None:
        return other if high is None else high
    return min(high, other)
