"""Promise 11: family_text and parse_family."""

import copy
import random
import unittest

from whichheld.errors import BadFamily, BadText
from whichheld.families import family_error
from whichheld.texts import family_text, parse_family
from fars import FAR_THREE, STARS
from heavies import FAR, HEAVY, PAY, STOP, each_family
from kit import ODD_VALUES, deep_list, deep_tuple, nest, sort_of
from makers import denied, random_block, random_family
from readers import first_wrong

HEAD = "box\n  program"
WORDS = ("box", "set", "pay", "stop", "if", "else", "repeat", "pass", "rest", "of", "not", "program")


def deep_text(deep):
    """The text of an expression in which so many lie in one another."""
    text = "n"
    for _ in range(deep - 1):
        text = f"({text} + 1)"
    return text


def mirrored(deep):
    """Another one, that is deep at its other end."""
    text = "7"
    for at in range(deep - 1):
        text = f"(-3 * {text})" if at % 2 else f"(a - {text})"
    return text


class Kit(unittest.TestCase):
    def check_family(self, text, family):
        self.assertEqual(sort_of(parse_family(text)), sort_of(family))
        self.assertEqual(family_text(family), text)

    def check_text(self, value, line):
        kept = copy.deepcopy(value)
        with self.assertRaises(BadText) as caught:
            parse_family(value)
        self.assertEqual(sort_of(caught.exception.line), sort_of(line), value)
        self.assertEqual(value, kept)

    def check_bad(self, text, error):
        with self.assertRaises(BadFamily) as caught:
            parse_family(text)
        self.assertEqual(sort_of(caught.exception.error), sort_of(error), text)

    def check_lines(self, lines, line):
        """The lines of a program, given with single margins, and where they are wrong; None if they are not."""
        text = "\n".join([HEAD, *["  " * 2 + one for one in lines]])
        if line is None:
            self.assertEqual(family_text(parse_family(text)), text)
        else:
            self.check_text(text, line + 2)


class FamilyTextTest(Kit):
    def test_each_statement(self):
        for statement, line in (
                (("set", "a", "n"), "set a n"), (("set", "n", ("plus", "a", -99)), "set n (a + -99)"), (STOP, "stop"),
                (("pay", 0), "pay 0"), (("pay", -1), "pay -1"), (("pay", ("minus", "x1", "n")), "pay (x1 - n)"),
                (("pay", ("times", -9, "n")), "pay (-9 * n)"), (("pay", ("times", 0, 0)), "pay (0 * 0)"),
                (("pay", ("minus", ("plus", 1, 2), ("times", 3, "abcdefgh"))), "pay ((1 + 2) - (3 * abcdefgh))"),
                (("pay", ("times", 3, ("times", 4, 5))), "pay (3 * (4 * 5))")):
            self.check_family(f"{HEAD}\n    {line}", ((statement,),))

    def test_each_test(self):
        for test, line in (
                (("less", "n", 3), "n < 3"), (("not", ("less", -1, "a")), "not -1 < a"),
                (("less", ("plus", "n", 1), ("times", 2, "n")), "(n + 1) < (2 * n)"),
                (("rest", "n", 3, 1), "rest 1 of 3 n"), (("rest", ("minus", "n", "a"), 6, 0), "rest 0 of 6 (n - a)"),
                (("not", ("not", ("rest", "n", 2, 1))), "not not rest 1 of 2 n")):
            self.check_family(f"{HEAD}\n    if {line}\n      pass", ((("if", test, (), ()),),))

    def test_blocks(self):
        test = ("less", "n", 0)
        for statement, lines in (
                (("repeat", 8, ()), ("repeat 8", "  pass")), (("repeat", 1, PAY), ("repeat 1", "  pay n")),
                (("if", test, PAY, ()), ("if n < 0", "  pay n")), (("if", test, (), ()), ("if n < 0", "  pass")),
                (("if", test, PAY, (STOP,)), ("if n < 0", "  pay n", "else", "  stop")),
                (("if", test, (), PAY * 2), ("if n < 0", "  pass", "else", "  pay n", "  pay n")),
                (("if", test, (("repeat", 2, ()),), (("repeat", 3, ()),)),
                 ("if n < 0", "  repeat 2", "    pass", "else", "  repeat 3", "    pass")),
                (("repeat", 1, (("if", test, (), (("if", test, PAY, (STOP,)),)), STOP)),
                 ("repeat 1", "  if n < 0", "    pass", "  else", "    if n < 0", "      pay n", "    else", "      stop",
                  "  stop"))):
            self.check_family("\n".join([HEAD, *["    " + line for line in lines]]), ((statement,),))
            text = "\n".join(["box", *(["  program", *["    " + line for line in lines], "    stop"] * 2), "  program"])
            self.check_family(text, ((statement, STOP), (statement, STOP), ()))

    def test_empty_programs(self):
        for many in range(1, 6):
            self.check_family("box" + "\n  program" * many, ((),) * many)
        self.check_family("box\n  program\n  program\n    stop\n  program", ((), (STOP,), ()))

    def test_the_deepest(self):
        text = "\n".join([HEAD, "    repeat 1", "      repeat 1", "        repeat 1", "          pay n"])
        self.check_family(text, (nest(3, PAY),))

    def test_there_and_back(self):
        source = random.Random(71)
        for family in (*each_family(source, 60), STARS, FAR_THREE, (FAR,)):
            text = family_text(family)
            self.assertIs(type(text), str)
            self.assertEqual(sort_of(parse_family(text)), sort_of(family))
            self.assertIsNone(first_wrong(text))
            other = tuple([denied(program) for program in family])
            self.assertEqual(family_text(parse_family(family_text(other))), family_text(other))

    def test_blocks_of_every_form(self):
        source = random.Random(72)
        for _ in range(500):
            block = random_block(source)
            text = family_text((block,))
            error = family_error((block,))
            if error is None:
                self.check_family(text, (block,))
            else:
                self.check_bad(text, error)


class NoTextTest(Kit):
    def test_no_text(self):
        for value in (*ODD_VALUES, deep_list(20), deep_tuple(20), (PAY,), ["box", "  program"], {"box": ()}, (None,) * 3999):
            if not isinstance(value, str):
                self.check_text(value, None)

    def test_texts_of_another_form(self):
        for value in ("", "n", "pay", "program", "two\nlines", "~" * 3500, " box", "box ", "Box", "BOX", "boxx", "\nbox",
                      "  program", "stop", "\n", "\n" * 3500, " " * 3500, "None", "()"):
            self.check_text(value, 0)

    def test_a_line_must_follow(self):
        self.check_text("box", 1)
        self.check_text("box\n  program\n    repeat 2", 3)
        self.check_text("box\n  program\n    if n < 1", 3)
        self.check_text("box\n  program\n    if n < 1\n      stop\n    else", 5)
        self.check_text("box\n  program\n    if n < 1\n      repeat 1\n        if n < 1", 5)
        for text in ("box\n  program", "box\n  program\n    stop", "box\n  program\n    repeat 2\n      pass"):
            self.assertEqual(family_text(parse_family(text)), text)

    def test_an_empty_last_line(self):
        for many, text in ((1, "box"), (2, HEAD), (3, HEAD + "\n    stop"), (4, HEAD + "\n    repeat 2\n      pass"),
                           (3, HEAD + "\n    repeat 2"), (3, HEAD + "\n  program")):
            self.check_text(text + "\n", many)
            self.check_text(text + "\n\n", many)
            self.check_text(text + "\n  ", many)
            self.check_text(text + "\n    ", many)
            self.check_text(text + "\n      ", many)


class LineTest(Kit):
    def test_blanks(self):
        for line in ("pay  n", "pay n ", "set a  n", "set  a n", "stop ", "pay (n  + 1)", "pay (n +  1)", "pay (n+1)",
                     "pay (n +1)", "pay (n+ 1)", "pay ( n + 1)", "pay (n + 1 )", "pay(n + 1)", "pay (2*n)", "repeat  2", "repeat 2 ",
                     "if  n < 1", "if n  < 1", "if n <  1", "if n<1", "if n < 1 ", "if not  n < 1", "if rest  1 of 3 n",
                     "if rest 1  of 3 n", "if rest 1 of  3 n", "if rest 1 of 3  n", "if rest 1 of 3 n ", "if not n <1", "payn"):
            self.check_lines(["stop", line, "stop"], 1)

    def test_margins(self):
        for margin in (0, 1, 2, 3, 5, 6, 7, 8, 12):
            for line in ("stop", "pay n", "pass", "else", "repeat 2"):
                self.check_text(f"{HEAD}\n    stop\n{' ' * margin}{line}", 3)
                self.check_text(f"{HEAD}\n{' ' * margin}{line}", 2)
        for line in ("program", " program", "   program", "    program", "  program ", "  Program", "  programs", "  box", "box"):
            self.check_text(f"box\n{line}", 1)
            self.check_text(f"{HEAD}\n    stop\n{line}", 3)
        for margin in (4, 5, 7, 8):
            self.check_text(f"{HEAD}\n    repeat 2\n{' ' * margin}stop", 3)
            self.check_text(f"{HEAD}\n    repeat 2\n{' ' * margin}pass", 3)
            self.check_text(f"{HEAD}\n    repeat 2\n      stop\n{' ' * (margin + 1 if margin == 4 else margin)}stop", 4)

    def test_words(self):
        for line in ("", "pay", "set", "set a", "if", "repeat", "stop n", "pay n n", "set a n n", "set 1 n", "set (n + 1) n",
                     "repeat n", "repeat (1 + 1)", "repeat", "if n", "if n < 1 < 2", "if n > 1", "if n = 1", "if not", "if not n",
                     "if (n < 1)", "if not (n < 1)", "if rest 1 of 3", "if rest n of 3 n", "if rest 1 of n n", "if rest 1 if 3 n",
                     "if rest 1 3 n", "if 1 of 3 n", "pay stop", "pay n + 1", "pay (n + 1", "pay n + 1)", "pay ((n + 1)", "pay (n + 1))",
                     "pay (n)", "pay ()", "pay (n * 3)", "pay (n * n)", "pay ((1 + 1) * n)", "pay (n / 2)", "pay (1 + n + 2)",
                     "pay (n < 1)", "pay -n", "pay --1", "pay +1", "pay 1.0", "pay N", "pay a_b", "Pay n", "STOP", "stop.",
                     "if n < 1:", "repeat 2:", "pass n", "else:", "elif n < 1", "while n < 1", "pay (", "pay )", "pay )(", "pay (-)",
                     "pay (+)", "pay (n + )", "pay ( + n)", "pay (n +)", "if  < n", "if n < ", "if < ", "if n <", "if <", "drop 1"):
            self.check_lines(["stop", line, "stop"], 1)

    def test_integers(self):
        for figures in ("0", "1", "-1", "10", "-10", "9" * 20, "-" + "9" * 20, "1" + "0" * 19):
            for line in (f"pay {figures}", f"set a ({figures} * n)", f"pay (1 + {figures})"):
                error = None if int(figures) in (0, 1, -1) or abs(int(figures)) == 10 and "*" not in line else (0, (0, "statement"))
                text = f"{HEAD}\n    {line}"
                if error is None:
                    self.assertEqual(family_text(parse_family(text)), text)
                else:
                    self.check_bad(text, error)
            for line in (f"repeat {figures}", f"if rest {figures} of {figures} n"):
                text = f"{HEAD}\n    {line}\n      pass"
                if line == "repeat 1":
                    self.assertEqual(family_text(parse_family(text)), text)
                else:
                    self.check_bad(text, (0, (0, "statement")))
        for figures in ("-0", "00", "01", "-01", "--1", "1-", "-", "+1", "1e3", "1_0", "0x1", "9" * 21, "-" + "9" * 21, "1" + "0" * 20,
                        "0" * 20, "-" + "0" * 20, "9" * 3000):
            for line in (f"pay {figures}", f"set a ({figures} * n)", f"pay (1 + {figures})", f"pay ({figures} - 1)",
                         f"repeat {figures}", f"if rest {figures} of 2 n", f"if rest 1 of {figures} n", f"if n < {figures}"):
                self.check_lines(["stop", line, "stop"], 1)

    def test_expressions_20_and_21_deep(self):
        for text in (deep_text(20), mirrored(20), f"({mirrored(19)} - {deep_text(19)})"):
            for line in (f"pay {text}", f"set b {text}"):
                self.check_bad(f"{HEAD}\n    stop\n    {line}", (0, (1, "statement")))
            for line in (f"if {text} < n", f"if n < {text}", f"if rest 1 of 3 {text}", f"if not {text} < {text}"):
                self.check_bad(f"{HEAD}\n    {line}\n      pass", (0, (0, "statement")))
        for text in (deep_text(21), mirrored(21), f"(1 + {deep_text(20)})", f"({deep_text(20)} - 1)", f"(2 * {mirrored(20)})",
                     deep_text(60), "(" * 900, "(" * 20 + "n" + ")" * 20):
            for line in (f"pay {text}", f"set b {text}", f"if {text} < n", f"if n < {text}", f"if rest 1 of 3 {text}"):
                self.check_lines(["stop", line, "  pass"], 1)
        for deep in (1, 2, 3):
            self.check_lines([f"pay {deep_text(deep)}", f"pay {mirrored(deep)}"], None)

    def test_20_and_21_nots(self):
        for test in ("n < 1", "rest 1 of 2 n"):
            for many in range(0, 3):
                self.check_lines([f"if {'not ' * many}{test}", "  pass"], None)
            for many in (3, 19, 20):
                self.check_bad(f"{HEAD}\n    if {'not ' * many}{test}\n      pass", (0, (0, "statement")))
            for many in (21, 22, 300):
                self.check_lines([f"if {'not ' * many}{test}", "  pass"], 0)

    def test_names(self):
        for name in ("a", "z9", "abcdefgh", "a2345678", "boxes", "sets", "i", "iff", "o", "of1", "nots", "n"):
            self.check_lines([f"set {name} n", f"pay {name}", f"pay ({name} + {name})", f"if {name} < {name}", "  pass"], None)
        for name in ("abcdefghi", "a23456789", "A", "aB", "1a", "a-b", "a_b", "a.b", "a!", "", "-a", "a" * 3000):
            for line in (f"set {name} n", f"pay {name}", f"pay (1 + {name})", f"if {name} < 1", f"if rest 0 of 2 {name}"):
                self.check_lines(["stop", line, "  pass"], 1)

    def test_the_twelve_words(self):
        for word in WORDS:
            for line in (f"set {word} n", f"pay {word}", f"pay (1 + {word})", f"pay ({word} - 1)", f"if {word} < 1", f"if 1 < {word}",
                         f"if rest 0 of 2 {word}", f"pay (2 * {word})"):
                self.check_lines(["stop", line, "  pass"], 1)

    def test_wide_texts_that_are_no_families(self):
        for text, error in (
                ("box" + "\n  program" * 6, (None, "many")), (HEAD + "\n    pay 100", (0, (0, "statement"))),
                (HEAD + "\n  program\n    repeat 0\n      pass", (1, (0, "statement"))),
                (HEAD + "\n    repeat 9\n      pass", (0, (0, "statement"))), (HEAD + "\n    stop" * 25, (0, (None, "places"))),
                (HEAD + "\n    repeat 8\n" + "\n".join(["      stop"] * 4), (0, (None, "weight"))),
                (HEAD + "\n    if rest 2 of 2 n\n      pass", (0, (0, "statement"))),
                (HEAD + "\n    if rest 0 of 7 n\n      pass", (0, (0, "statement"))),
                (HEAD + "\n    if rest -1 of -3 n\n      pass", (0, (0, "statement"))),
                (HEAD + "\n    if n < 1\n      pass" * 3, (0, (None, "comparings"))),
                (HEAD + "\n    if rest 0 of 2 n\n      pass" * 3, (0, (None, "rests"))),
                (HEAD + "\n    pay (10 * n)", (0, (0, "statement")))):
            self.check_bad(text, error)

    def test_deep_blocks(self):
        for levels in (4, 5, 20, 50):
            lines = ["    " + "  " * level + "repeat 1" for level in range(levels)]
            self.check_bad("\n".join([HEAD, *lines, "    " + "  " * levels + "stop"]), (0, (4, "nest")))
            self.check_text("\n".join([HEAD, *lines]), levels + 2)
            self.check_text("\n".join([HEAD, *lines, "    " + "  " * levels + "stp"]), levels + 2)


class StructureTest(Kit):
    def test_pass(self):
        for lines, line in (
                (["pass"], 0), (["stop", "pass"], 1), (["repeat 2", "  pass", "  pass"], 2), (["repeat 2", "  pass", "  stop"], 2),
                (["repeat 2", "  stop", "  pass"], 2), (["repeat 2", "  pass", "pass"], 2), (["repeat 2", "  pass", "    pass"], 2),
                (["if n < 1", "  pass", "  stop"], 2), (["if n < 1", "  pass", "stop"], None), (["if n < 1", "pass"], 1),
                (["if n < 1", "  stop", "else", "  pass"], 3), (["if n < 1", "  pass", "else", "  pass"], 3),
                (["if n < 1", "  pass", "else", "  stop", "  pass"], 4), (["repeat 1", "  repeat 1", "    pass", "  stop"], None),
                (["repeat 1", "  repeat 1", "    pass", "  pass"], 3), (["repeat 1", "  repeat 1", "  pass"], 2)):
            self.check_lines(lines, line)

    def test_else(self):
        for lines, line in (
                (["else"], 0), (["stop", "else"], 1), (["if n < 1", "else"], 1), (["if n < 1", "  else"], 1),
                (["repeat 2", "  pass", "else", "  stop"], 2), (["repeat 2", "  stop", "else", "  stop"], 2),
                (["if n < 1", "  pass", "  else", "    stop"], 2), (["if n < 1", "  pass", "else", "  stop", "else", "  stop"], 4),
                (["if n < 1", "  pass", "stop", "else", "  stop"], 3), (["if n < 1", "  pass", "else", "stop"], 3),
                (["if n < 1", "  pass", "else", "else"], 3), (["if n < 1", "  pass", "else", "  stop"], None),
                (["if n < 1", "  if n < 2", "    pass", "  else", "    stop", "else", "  stop"], None),
                (["if n < 1", "  if n < 2", "    pass", "else", "  stop"], None),
                (["if n < 1", "  if n < 2", "    pass", "else", "  stop", "  else", "    stop"], 5),
                (["if n < 1", "  repeat 2", "    stop", "  stop", "else", "  stop", "stop"], None),
                (["if n < 1", "  repeat 2", "    stop", "  else", "    stop"], 3),
                (["if n < 1", "  stop", "else", "  if n < 2", "    stop", "  else", "    stop"], None),
                (["if n < 1", "  stop", "else", "  if n < 2", "    stop", "else", "  stop"], 5),
                (["repeat 2", "  if n < 1", "    stop", "else", "  stop"], 3), (["if n < 1", "  if n < 2", "else", "  stop"], 2)):
            self.check_lines(lines, line)

    def test_a_program_where_a_line_must_follow(self):
        for line in ("repeat 2", "if n < 1"):
            self.check_text(f"{HEAD}\n    {line}\n  program", 3)
            self.check_text(f"{HEAD}\n    {line}\n    stop", 3)
        self.check_text(f"{HEAD}\n    if n < 1\n      stop\n    else\n  program", 5)
        self.check_text("box\n    stop", 1)
        self.check_text("box\nbox\n  program", 1)
        self.check_text("box\n  program\nbox", 2)

    def test_the_first_wrong_line_of_several(self):
        self.check_text("box\n  program\n    pay 5x\n    pay", 2)
        self.check_text("boxes\n  programs", 0)
        self.check_text("box\n  program\n    pay 100\n    pay", 3)
        self.check_text("box" + "\n  program" * 9 + "\n    pya", 10)

    def test_texts_with_a_changed_line(self):
        source = random.Random(73)
        counts = {"right": 0, "wrong": 0, "end": 0}
        for family in each_family(source, 25):
            lines = family_text(family).split("\n")
            for _ in range(25):
                text = "\n".join(changed_lines(source, lines))
                line = first_wrong(text)
                if line is not None:
                    self.check_text(text, line)
                    counts["end" if line == text.count("\n") + 1 else "wrong"] += 1
                    continue
                counts["right"] += 1
                try:
                    found = parse_family(text)
                    self.assertIsNone(family_error(found))
                    self.assertEqual(family_text(found), text)
                except BadFamily as error:
                    self.assertIsNotNone(error.error)
        self.assertGreater(min(counts.values()), 25)


def changed_lines(source, lines):
    """The lines with a line or a sign of one changed, left out, doubled, exchanged or put in."""
    lines = list(lines)
    at = source.randrange(len(lines))
    pick = source.randrange(8)
    if pick == 0:
        del lines[at]
    elif pick == 1:
        lines.insert(at, source.choice(lines))
    elif pick == 2:
        other = source.randrange(len(lines))
        lines[at], lines[other] = lines[other], lines[at]
    elif pick == 3:
        lines[at] = source.choice(("  " + lines[at], lines[at][2:], " " + lines[at], lines[at] + " "))
    elif pick == 4:
        lines = lines[:at]
    elif pick == 5:
        lines.insert(at, " " * source.choice((2, 4, 6, 8)) + source.choice(("else", "pass", "stop", "program", "repeat 2", "")))
    else:
        line, place = lines[at], source.randrange(len(lines[at]) + 1)
        sign = source.choice(" n1-()+*<a0 \n")
        lines[at] = source.choice((line[:place] + sign + line[place:], line[:place] + sign + line[place + 1:],
                                   line[:place] + line[place + 1:]))
    return lines or [""]


if __name__ == "__main__":
    unittest.main()
