"""Programs: what one is, the walk over its statements, its weight, and programs that come of it."""

from whichheld.bounds import MAX_COMPARINGS, MAX_NEST, MAX_PLACES, MAX_RESTS, MAX_WEIGHT
from whichheld.errors import NoPlace
from whichheld.forms import bare_test, blocks_of, is_integer, is_statement, with_blocks


def program_error(value):
    """None for a program, otherwise what is wrong first with value, which may be any value."""
    if not isinstance(value, tuple):
        return (None, "program")
    # The walk looks into the blocks of a statement only when it is asked for
    # the next one, so it never looks into what is not a statement.
    for place, depth, statement in each_statement(value):
        if depth > MAX_NEST:
            return (place, "nest")
        if not is_statement(statement):
            return (place, "statement")
    return bound_error(value)


def bound_error(program):
    """None, or the first bound that what is made of statements alone goes beyond."""
    if places_in(program) > MAX_PLACES:
        return (None, "places")
    if weight(program) > MAX_WEIGHT:
        return (None, "weight")
    if tested_in(program, "rest") > MAX_RESTS:
        return (None, "rests")
    if tested_in(program, "less") > MAX_COMPARINGS:
        return (None, "comparings")
    return None


def each_statement(program):
    """Yields (place, depth, statement) for each statement, in the order of the places."""
    waiting = [(0, statement) for statement in program[::-1]]
    place = 0
    while waiting:
        depth, statement = waiting.pop()
        yield (place, depth, statement)
        place += 1
        for block in blocks_of(statement)[::-1]:
            for inner in block[::-1]:
                waiting.append((depth + 1, inner))


def places_in(block):
    """The number of statements in the block, at any depth."""
    return len(list(each_statement(block)))


def statement_at(program, place):
    """The statement at this place; raises NoPlace(place) if there is none."""
    if is_integer(place):
        for at, depth, statement in each_statement(program):
            if at == place:
                return statement
    raise NoPlace(place)


def weight(program):
    """The weight of the block of the program."""
    return sum_over(program, lambda statement: 1)


def tested_in(block, word):
    """The rests of the block, or with the word "less" its comparings."""
    return sum_over(block, lambda statement: int(tests_with(statement, word)))


def tests_with(statement, word):
    """Whether the statement has a test with this word, with "not" or without."""
    return statement[0] == "if" and bare_test(statement[1])[0] == word


def sum_over(block, own):
    """The sum of what own gives for each statement, counted as often as "repeat" repeats its block."""
    total = 0
    for statement in block:
        inner = sum([sum_over(part, own) for part in blocks_of(statement)])
        times = statement[1] if statement[0] == "repeat" else 1
        total += own(statement) + times * inner
    return total


def contrary(program):
    """The program that pays -1 times what this one pays, or what is too deep to be a program."""
    return tuple([contrary_statement(statement) for statement in program])


def contrary_statement(statement):
    """The statement with each payment in it, its own included, taken -1 times."""
    if statement[0] == "pay":
        return paid_contrarily(statement)
    return with_blocks(statement, [contrary(block) for block in blocks_of(statement)])


def paid_contrarily(statement):
    """The payment of -1 times the amount."""
    return ("pay", ("times", -1, statement[1]))


def mutants(program):
    """The tuple of the programs that come of this one by one change at one place."""
    found = []
    for place, depth, statement in each_statement(program):
        found.append(replaced(program, place, ()))
        for other in changes_of(statement):
            found.append(replaced(program, place, (other,)))
    return tuple([other for other in found if program_error(other) is None])


def changes_of(statement):
    """The tuple of what may stand in the place of the statement in a mutant."""
    if statement[0] == "if":
        return (("if", statement[1], statement[3], statement[2]),)
    if statement[0] == "pay":
        return (paid_contrarily(statement),)
    if statement[0] == "repeat":
        return (("repeat", 1, statement[2]),)
    if statement[0] == "set":
        return (("set", statement[1], ("plus", statement[2], 1)),)
    return ()


def replaced(block, place, others):
    """The block with the statements others for the one at this place; as it is if there is none."""
    done = []
    for statement in block:
        if place == 0:
            done.extend(others)
        else:
            done.append(replaced_inside(statement, place - 1, others))
        place -= places_in((statement,))
    return tuple(done)


def replaced_inside(statement, place, others):
    """The statement with others for the one at this place, counted from the first one in its blocks."""
    blocks = []
    for block in blocks_of(statement):
        blocks.append(replaced(block, place, others))
        place -= places_in(block)
    return with_blocks(statement, blocks)
