"""Consoles: a bench that is worked by lines of text."""

from whichheld.errors import (
    BadFamily, BadHeard, BadLies, Busy, NoneLeft, NoProgram, NothingToRedo, NothingToUndo, Settled, TooManyEdits)
from whichheld.texts import family_text, read_integer, read_plain

MOST_DIGITS = 40
MARKS = "-0+"

# What stands behind the word of each command: N for an integer, S for a sign.
COMMANDS = {
    "drop": "N", "hear": "NS", "allow": "N", "try": "S", "undo": "", "redo": "",
    "text": "", "left": "", "tries": "", "heard": "", "signs": "N"}


class Console:
    """Takes lines and does on its bench what they say."""

    def __init__(self, bench):
        self.bench = bench

    def execute(self, line):
        """The answer to the line, which may be any value."""
        command = command_of(line) if isinstance(line, str) else None
        if command is None:
            return "unknown command"
        try:
            return answer_of(self.bench, command)
        except Busy:
            return "error Busy"
        except TooManyEdits:
            return "error TooManyEdits"
        except Settled:
            return "error Settled"
        except NoProgram:
            return "error NoProgram"
        except BadFamily:
            return "error BadFamily"
        except BadHeard:
            return "error BadHeard"
        except BadLies:
            return "error BadLies"
        except NoneLeft:
            return "error NoneLeft"
        except NothingToUndo:
            return "error NothingToUndo"
        except NothingToRedo:
            return "error NothingToRedo"


def command_of(line):
    """The tuple of the word of the command and its values, or None if the line is no command."""
    word, blank, rest = line.partition(" ")
    if word == "add":
        statement = read_plain(rest)
        return None if statement is None else (word, (statement,))
    kinds = COMMANDS.get(word)
    parts = rest.split(" ") if blank else []
    if kinds is None or len(parts) != len(kinds):
        return None
    values = [read_integer(part, MOST_DIGITS) if kind == "N" else read_sign(part) for kind, part in zip(kinds, parts)]
    return None if None in values else (word, *values)


def read_sign(text):
    """The sign with this mark, or None if there is none."""
    return MARKS.find(text) - 1 if len(text) == 1 and text in MARKS else None


def mark_of(sign):
    """The mark of the sign."""
    return MARKS[sign + 1]


def answer_of(bench, command):
    """The answer to the command, when it is done; raises what the bench raises."""
    word = command[0]
    if word == "text":
        return family_text(bench.family).replace("\n", " | ")
    if word == "left":
        return ", ".join([str(index) for index in bench.left()]) or "none"
    if word == "tries":
        return str(bench.tries())
    if word == "heard":
        return ", ".join([f"{number} {mark_of(sign)}" for number, sign in bench.heard]) or "nothing"
    if word == "signs":
        return " ".join([mark_of(sign) for sign in bench.told(command[1])])
    return f"ok {version_behind(bench, command)}"


def version_behind(bench, command):
    """The version of the bench behind the edit, undo or redo that the command calls."""
    word = command[0]
    if word == "add":
        return bench.add(command[1])
    if word == "drop":
        return bench.drop(command[1])
    if word == "hear":
        return bench.hear(command[1], command[2])
    if word == "allow":
        return bench.allow(command[1])
    if word == "try":
        return bench.try_next(command[1])
    return bench.undo() if word == "undo" else bench.redo()
