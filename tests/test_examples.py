"""The examples of the document, word for word."""

import pathlib
import unittest

from kit import sort_of

EXAMPLES = pathlib.Path(__file__).resolve().parent / "examples.txt"


def each_example():
    """The lines that are executed and the line that tells what comes of the last one, for each example."""
    for block in EXAMPLES.read_text(encoding="ascii").strip("\n").split("\n\n"):
        *lines, wanted = block.split("\n")
        assert all(line.startswith(">>> ") for line in lines), block
        yield [line[4:] for line in lines], wanted


def value_of(lines):
    """What the last line comes to, or the text of the error that it raises with its fields."""
    names = {}
    for line in lines[:-1]:
        exec(line, names)
    try:
        return eval(lines[-1], names)
    except Exception as error:
        fields = ", ".join([repr(value) for value in vars(error).values()])
        return f"raises {type(error).__name__}({fields})"


class ExamplesTest(unittest.TestCase):
    def test_all(self):
        for lines, wanted in each_example():
            with self.subTest(lines[-1]):
                found = value_of(lines)
                if wanted.startswith("raises "):
                    self.assertEqual(found, wanted)
                else:
                    self.assertEqual(repr(found), wanted)
                    self.assertEqual(sort_of(found), sort_of(eval(wanted)))

    def test_there_are_examples_of_each_function(self):
        text = EXAMPLES.read_text(encoding="ascii")
        for name in NAMES:
            self.assertIn(name, text)


NAMES = (
    "program_error(", "each_statement(", "weight(", "contrary(", "mutants(", "run(", "sign(", "family_error(",
    "signs_at(", "signs_of(", "signs_hold(", "kinds_of(", "parted(", "kin(", "where(", "kills(", "kills_hold(", "unkilled(",
    "heard_error(", "left(", "tries(", "plan_holds(", "plan_of(", "ahead_of(", "ahead_holds(", "family_text(",
    "parse_family(", "Bench(", "FairBench(", "Console(")


if __name__ == "__main__":
    unittest.main()
