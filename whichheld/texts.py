"""Texts of families: how they are written, and read line by line."""

from whichheld.errors import BadFamily, BadText
from whichheld.families import family_error
from whichheld.forms import DIGITS, blocks_of, is_integer, is_name, with_blocks

HEAD = "box"
PROGRAM = "  program"
MARGIN = 4
STEP = 2
SIGN_OF = {"plus": " + ", "minus": " - ", "times": " * "}
WORD_OF = {" + ": "plus", " - ": "minus", " * ": "times"}
BRACKETS = {"(": 1, ")": -1}

# The bounds of the wide sense in which a text is one of a family.
WIDE_DIGITS = 20
WIDE_DEEP = 20
WIDE_NOTS = 20


def family_text(family):
    """The text of the family."""
    lines = [HEAD]
    for program in family:
        lines.append(PROGRAM)
        lines.extend(block_lines(program, 0))
    return "\n".join(lines)


def block_lines(block, depth):
    """The list of the lines of the block, whose statements lie in so many others."""
    lines = []
    for statement in block:
        lines.append(indented(statement_line(statement), depth))
        blocks = blocks_of(statement)
        if blocks:
            lines.extend(block_lines(blocks[0], depth + 1) or [indented("pass", depth + 1)])
        if len(blocks) > 1 and blocks[1]:
            lines.append(indented("else", depth))
            lines.extend(block_lines(blocks[1], depth + 1))
    return lines


def indented(line, depth):
    """The line with the spaces ahead of it."""
    return " " * (MARGIN + STEP * depth) + line


def statement_line(statement):
    """The line of the statement, without the spaces ahead of it."""
    word = statement[0]
    if word == "stop":
        return word
    if word == "pay":
        return f"pay {expression_text(statement[1])}"
    if word == "set":
        return f"set {statement[1]} {expression_text(statement[2])}"
    if word == "if":
        return f"if {condition_text(statement[1])}"
    return f"repeat {statement[1]}"


def expression_text(expression):
    """The text of the expression."""
    if isinstance(expression, str):
        return expression
    if is_integer(expression):
        return str(expression)
    word, one, other = expression
    return f"({expression_text(one)}{SIGN_OF[word]}{expression_text(other)})"


def condition_text(test):
    """The text of the test."""
    if test[0] == "not":
        return f"not {condition_text(test[1])}"
    if test[0] == "less":
        return f"{expression_text(test[1])} < {expression_text(test[2])}"
    return f"rest {test[3]} of {test[2]} {expression_text(test[1])}"


def parse_family(value):
    """The family whose text value is, which may be any value; raises BadText(line) or BadFamily(error)."""
    if not isinstance(value, str):
        raise BadText(None)
    lines = value.split("\n")
    reader = Reader()
    for at, line in enumerate(lines):
        if not reader.takes(line):
            raise BadText(at)
    if reader.is_waiting():
        raise BadText(len(lines))
    family = tuple([frozen(block) for block in reader.programs])
    error = family_error(family)
    if error is not None:
        raise BadFamily(error)
    return family


class Level:
    """A block whose lines are read.

    Its word tells what it belongs to: "program", "if" for the block yes, "else" for the block no, or "repeat".
    """

    def __init__(self, word, block, other):
        self.word = word
        self.block = block
        # The block no, where this one is the block yes; otherwise None.
        self.other = other
        self.passed = False


class Reader:
    """Takes the lines of a text one after another, as long as a text of a family may begin with them.

    What is in blocks is kept in lists, which grow as long as their lines come.
    """

    def __init__(self):
        self.begun = False
        self.programs = []
        self.levels = []

    def takes(self, line):
        """Whether the line may come next; then it is read."""
        if not self.begun:
            self.begun = line == HEAD
            return self.begun
        if line == PROGRAM:
            return self.takes_program()
        words = line.lstrip(" ")
        depth = depth_of(len(line) - len(words))
        if depth is None or depth >= len(self.levels):
            return False
        if words == "pass":
            return self.takes_pass(depth)
        if words == "else":
            return self.takes_else(depth)
        return self.takes_statement(depth, words)

    def is_waiting(self):
        """Whether a line must follow."""
        if not self.levels:
            return True
        last = self.levels[-1]
        return not last.block and not last.passed and last.word != "program"

    def takes_program(self):
        """Whether a program may begin here; then it does."""
        if self.programs and self.is_waiting():
            return False
        block = []
        self.programs.append(block)
        self.levels = [Level("program", block, None)]
        return True

    def takes_pass(self, depth):
        """Whether "pass" may stand here; then the innermost block is an empty one."""
        last = self.levels[-1]
        if depth + 1 < len(self.levels) or not self.is_waiting() or last.word == "else":
            return False
        last.passed = True
        return True

    def takes_else(self, depth):
        """Whether "else" may stand here; then the block no of its statement begins."""
        if depth + 1 >= len(self.levels) or self.is_waiting() or self.levels[depth + 1].word != "if":
            return False
        block = self.levels[depth + 1].other
        self.levels = [*self.levels[:depth + 1], Level("else", block, None)]
        return True

    def takes_statement(self, depth, words):
        """Whether the statement with this line may stand here; then its own first block, if any, begins."""
        if self.levels[depth].passed or (depth + 1 < len(self.levels) and self.is_waiting()):
            return False
        statement = read_statement(words)
        if statement is None:
            return False
        self.levels = self.levels[:depth + 1]
        self.levels[depth].block.append(statement)
        if statement[0] == "if":
            self.levels.append(Level("if", statement[2], statement[3]))
        elif statement[0] == "repeat":
            self.levels.append(Level("repeat", statement[2], None))
        return True


def depth_of(margin):
    """In how many statements the one lies that has so many spaces ahead of its line, or None."""
    if margin < MARGIN or (margin - MARGIN) % STEP != 0:
        return None
    return (margin - MARGIN) // STEP


def frozen(block):
    """The tuple of the statements of a list of them, with their blocks as tuples too."""
    return tuple([with_blocks(statement, [frozen(inner) for inner in blocks_of(statement)]) for statement in block])


def read_statement(line):
    """The statement with this line, with empty lists for its blocks, or None if there is none."""
    word, blank, rest = line.partition(" ")
    if word == "if":
        test = read_test(rest, WIDE_NOTS)
        return None if test is None else ("if", test, [], [])
    if word == "repeat":
        times = read_integer(rest, WIDE_DIGITS)
        return None if times is None else ("repeat", times, [])
    return read_plain(line)


def read_plain(line):
    """The set, pay or stop statement with this line, or None if there is none."""
    word, blank, rest = line.partition(" ")
    if line == "stop":
        return ("stop",)
    if word == "pay":
        expression = read_expression(rest, WIDE_DEEP)
        return None if expression is None else ("pay", expression)
    if word == "set":
        name, blank, text = rest.partition(" ")
        expression = read_expression(text, WIDE_DEEP)
        return None if expression is None or not is_name(name) else ("set", name, expression)
    return None


def read_test(text, nots):
    """The test with this text, in which at most so many "not" lie in one another, or None."""
    word, blank, rest = text.partition(" ")
    if word == "not":
        test = read_test(rest, nots - 1) if nots > 0 else None
        return None if test is None else ("not", test)
    if word == "rest":
        return read_rest(rest)
    one, sign, other = parted_text(text)
    left, right = read_expression(one, WIDE_DEEP), read_expression(other, WIDE_DEEP)
    return None if left is None or right is None or sign != " < " else ("less", left, right)


def read_rest(text):
    """The test whose text is "rest", a space and this text, or None."""
    parts = text.split(" ", 3)
    if len(parts) != 4 or parts[1] != "of":
        return None
    rest, by = read_integer(parts[0], WIDE_DIGITS), read_integer(parts[2], WIDE_DIGITS)
    expression = read_expression(parts[3], WIDE_DEEP)
    return None if rest is None or by is None or expression is None else ("rest", expression, by, rest)


def read_expression(text, deep):
    """The expression with this text, in which at most so many lie in one another, or None."""
    if deep == 0:
        return None
    if is_name(text):
        return text
    if not text.startswith("(") or not text.endswith(")"):
        return read_integer(text, WIDE_DIGITS)
    one, sign, other = parted_text(text[1:-1])
    if sign not in WORD_OF:
        return None
    left = read_integer(one, WIDE_DIGITS) if sign == " * " else read_expression(one, deep - 1)
    right = read_expression(other, deep - 1)
    return None if left is None or right is None else (WORD_OF[sign], left, right)


def parted_text(text):
    """(one, sign, other): the text ahead of the first space outside of brackets, three characters, and the rest."""
    deep = 0
    for at, letter in enumerate(text):
        deep += BRACKETS.get(letter, 0)
        if deep == 0 and letter == " ":
            return (text[:at], text[at:at + 3], text[at + 3:])
    return (text, "", "")


def read_integer(text, digits):
    """The integer of at most so many digits that is written like this, or None."""
    figures = text[1:] if text.startswith("-") else text
    if not 1 <= len(figures) <= digits or not all([figure in DIGITS for figure in figures]):
        return None
    number = int(text)
    # No integer is written with a leading 0 or as "-0".
    return number if str(number) == text else None
