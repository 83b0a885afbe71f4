"""Programs and families by a seeded random source, other writings of them, and a second way of running them."""

from whichheld.programs import program_error

NAMES = ("n", "n", "a", "b")


class Stopped(Exception):
    """The run has met a stop."""


def second_run(program, number):
    """(total, places) by plain recursion over the blocks, with a stop as an exception."""
    names, done = {"n": number}, [0, []]
    try:
        run_block(program, 0, names, done)
    except Stopped:
        pass
    return done[0], tuple(done[1])


def run_block(block, place, names, done):
    """Runs the block whose first statement has this place; returns the place behind it."""
    for statement in block:
        place = run_statement(statement, place, names, done)
    return place


def run_statement(statement, place, names, done):
    """Runs the statement and returns the place behind it."""
    done[1].append(place)
    word = statement[0]
    if word == "set":
        names[statement[1]] = second_value(statement[2], names)
    elif word == "pay":
        done[0] += second_value(statement[1], names)
    elif word == "stop":
        raise Stopped
    elif word == "if":
        truth = second_truth(statement[1], names)
        if truth:
            run_block(statement[2], place + 1, names, done)
        else:
            run_block(statement[3], place + 1 + count_all(statement[2]), names, done)
    else:
        for _ in range(statement[1]):
            run_block(statement[2], place + 1, names, done)
    return place + count_all((statement,))


def count_all(block):
    """The number of statements in the block."""
    return sum(1 + sum(count_all(part) for part in inner_blocks(statement)) for statement in block)


def inner_blocks(statement):
    """The blocks of the statement."""
    return statement[2:] if statement[0] in ("if", "repeat") else ()


def second_value(expression, names):
    """The value of the expression."""
    if isinstance(expression, (int, str)):
        return names.get(expression, 0) if isinstance(expression, str) else expression
    one, other = (second_value(part, names) for part in expression[1:])
    return {"plus": one + other, "minus": one - other, "times": one * other}[expression[0]]


def second_truth(test, names):
    """Whether the test is true."""
    if test[0] == "not":
        return not second_truth(test[1], names)
    if test[0] == "less":
        return second_value(test[1], names) - second_value(test[2], names) < 0
    return (second_value(test[1], names) - test[3]) % test[2] == 0


def second_signs(family, number):
    """The signs of the family on the number, from second_run."""
    totals = [second_run(program, number)[0] for program in family]
    return tuple([0 if total == 0 else total // abs(total) for total in totals])


def random_expression(source, deep=3):
    pick = source.randrange(6) if deep > 1 else source.randrange(2)
    if pick == 0:
        return source.choice((0, 1, -1, 2, 7, source.randint(-99, 99)))
    if pick < 3:
        return source.choice(NAMES)
    if pick == 3:
        return ("times", source.randint(-9, 9), random_expression(source, deep - 1))
    return (source.choice(("plus", "minus")), *[random_expression(source, deep - 1) for _ in range(2)])


def random_test(source):
    by = source.randint(2, 6)
    test = source.choice((
        ("less", random_expression(source), random_expression(source)),
        ("rest", random_expression(source, 2), by, source.randrange(by)),
    ))
    for _ in range(source.choice((0, 0, 1, 2))):
        test = ("not", test)
    return test


def random_block(source, depth=0):
    return tuple([random_statement(source, depth) for _ in range(source.choice((0, 1, 2, 2, 3)))])


def random_statement(source, depth):
    pick = source.randrange(16 if depth < 3 else 8)
    if pick == 0:
        return ("stop",)
    if pick < 5:
        return ("pay", random_expression(source))
    if pick < 8:
        return ("set", source.choice(NAMES), random_expression(source))
    if pick < 11:
        return ("repeat", source.choice((1, 2, 3, 8)), random_block(source, depth + 1))
    return ("if", random_test(source), random_block(source, depth + 1), random_block(source, depth + 1))


def random_program(source):
    """A program with at least one "if", of any weight."""
    while True:
        program = random_block(source) + random_block(source)
        if program_error(program) is None and "if" in [statement[0] for statement in program]:
            return program


def random_family(source, size):
    """A family of so many programs."""
    return tuple([random_program(source) for _ in range(size)])


def denied(block):
    """The block with one more "not" ahead of each test that can have one, and its blocks exchanged."""
    done = []
    for statement in block:
        if statement[0] == "if":
            word, test, yes, no = statement
            test, yes, no = (test[1], no, yes) if test[0] == "not" else (("not", test), no, yes)
            statement = ("if", test, denied(yes), denied(no))
        elif statement[0] == "repeat":
            statement = ("repeat", statement[1], denied(statement[2]))
        done.append(statement)
    return tuple(done)


def written_out(block):
    """The block with what is repeated standing there as often."""
    done = []
    for statement in block:
        if statement[0] == "repeat":
            done.extend(written_out(statement[2]) * statement[1])
        elif statement[0] == "if":
            done.append(("if", statement[1], written_out(statement[2]), written_out(statement[3])))
        else:
            done.append(statement)
    return tuple(done)


def renamed(part):
    """The program or part of one, with other names for "a" and "b"."""
    if isinstance(part, tuple):
        return tuple([renamed(inner) for inner in part])
    return {"a": "other7", "b": "a"}.get(part, part) if isinstance(part, str) else part
