"""Promise 13: Console and execute."""

import copy
import random
import unittest

from whichheld.benches import Bench, FairBench
from whichheld.consoles import Console
from whichheld.texts import family_text
from fars import FAR_THREE, STARS
from heavies import FAR, FAR_ZERO, PAY, STOP
from kit import BIG, ODD_VALUES, deep_list, deep_tuple, sort_of
from makers import random_family

UNKNOWN = "unknown command"
LESS = (("pay", ("minus", "n", 2)),)
TWO = (PAY, LESS)


class ConsoleTest(unittest.TestCase):
    def check(self, bench, line, answer):
        """That this is the answer, and that an error or an unknown command changes nothing."""
        kept = copy.deepcopy(line)
        before = (bench.state(), bench.edits(), str(bench))
        self.assertEqual(sort_of(Console(bench).execute(line)), sort_of(answer), line)
        self.assertEqual(sort_of(line), sort_of(kept))
        if not answer.startswith("ok "):
            self.assertEqual((bench.state(), bench.edits(), str(bench)), before)

    def check_all(self, bench, *rows):
        for line, answer in rows:
            self.check(bench, line, answer)

    def test_edits(self):
        bench = Bench(TWO)
        self.check_all(
            bench, ("add stop", "ok 1"), ("drop 0", "ok 2"), ("hear 4 +", "ok 3"), ("hear -4 -", "ok 4"), ("hear 0 0", "ok 5"),
            ("allow 1", "ok 6"), ("undo", "ok 5"), ("undo", "ok 4"), ("redo", "ok 5"), ("allow 0", "ok 6"), ("try +", "error Settled"))
        self.assertEqual(bench.edits(), (("add", (STOP,)), ("drop", 0), ("hear", 4, 1), ("hear", -4, -1), ("hear", 0, 0), ("allow", 0)))
        self.assertEqual(bench.state(), ((LESS, (STOP,)), ((4, 1), (-4, -1), (0, 0)), 0))

    def test_add(self):
        for line, statement in (
                ("stop", STOP), ("pay n", ("pay", "n")), ("pay -99", ("pay", -99)), ("pay (n + 1)", ("pay", ("plus", "n", 1))),
                ("pay (2 * (n - a))", ("pay", ("times", 2, ("minus", "n", "a")))), ("set a n", ("set", "a", "n")),
                ("set abcdefgh (-9 * 0)", ("set", "abcdefgh", ("times", -9, 0)))):
            bench = Bench(TWO)
            self.check(bench, "add " + line, "ok 1")
            self.assertEqual(sort_of(bench.family), sort_of((*TWO, (statement,))))
        for line in ("pay 100", "pay " + "9" * 20, "pay -" + "9" * 20, "pay (10 * n)", "pay (((n + 1) + 1) + 1)",
                     "set a " + "(" * 19 + "n" + " + 1)" * 19):
            self.check(Bench(TWO), "add " + line, "error BadFamily")
        for line in ("", " stop", "stop ", "stop n", "  stop", "pay", "pay ", "pay  n", "pay n ", "pay N", "pay n + 1", "pay (n+1)", "set a",
                     "set 1 n", "set stop n", "set abcdefghi n", "set a  n", "pay " + "9" * 21, "pay 01", "pay -0", "pass", "else", "box",
                     "  program", "program", "if n < 1", "repeat 2", "repeat 2\n      stop", "stop\nstop", "stop\n", "\nstop", "()", "pay (n * 2)",
                     "set a " + "(" * 20 + "n" + " + 1)" * 20, "    stop"):
            self.check(Bench(TWO), "add " + line, UNKNOWN)
        self.check(Bench(TWO), "add", UNKNOWN)

    def test_queries(self):
        bench = Bench((*TWO, ()), ((1, 1), (-7, -1), (0, 0)))
        before = (bench.state(), bench.edits())
        self.check_all(
            bench, ("left", "0"), ("tries", "0"), ("heard", "1 +, -7 -, 0 0"), ("signs 1", "+ - 0"), ("signs 0", "0 - 0"), ("signs -5", "- - 0"),
            ("text", "box |   program |     pay n |   program |     pay (n - 2) |   program"))
        self.assertEqual((bench.state(), bench.edits()), before)
        self.check_all(Bench((PAY,)), ("left", "0"), ("tries", "0"), ("heard", "nothing"), ("signs 7", "+"), ("text", "box |   program |     pay n"))
        self.check_all(Bench(STARS, (), 1), ("left", "0, 1, 2, 3, 4"), ("tries", "9"), ("heard", "nothing"), ("signs 8", "0 0 + 0 0"))
        self.check_all(Bench(STARS, ((3, 0),)), ("left", "0, 1, 2, 4"), ("tries", "3"), ("heard", "3 0"))
        self.check_all(Bench(TWO, ((0, 1),)), ("left", "none"), ("tries", "0"), ("heard", "0 +"))

    def test_text(self):
        source = random.Random(91)
        for _ in range(40):
            family = random_family(source, source.randint(1, 5))
            self.check(Bench(family), "text", family_text(family).replace("\n", " | "))

    def test_each_error(self):
        full = Bench((PAY,) * 5, ((1, 1),) * 40)
        self.check_all(full, ("add stop", "error BadFamily"), ("hear 1 +", "error BadHeard"), ("drop 5", "error NoProgram"),
                       ("allow 2", "error BadLies"), ("allow -1", "error BadLies"), ("undo", "error NothingToUndo"),
                       ("redo", "error NothingToRedo"), ("try 0", "error Settled"), ("drop -1", "error NoProgram"))
        self.check(Bench((PAY,)), "drop 0", "error BadFamily")
        self.check(Bench(TWO, ((5, 1),) * 40), "try +", "error BadHeard")
        fair = FairBench((PAY, ()), ((2, 1),))
        self.check_all(fair, ("hear 2 0", "error NoneLeft"), ("drop 0", "error NoneLeft"), ("allow 1", "ok 1"), ("hear 2 0", "ok 2"),
                       ("allow 0", "error NoneLeft"), ("left", "0, 1"))
        self.check_all(FairBench((PAY, ())), ("try -", "ok 1" if Bench((PAY, ())).to_try() < 0 else "error NoneLeft"))
        for _ in range(60):
            full.allow(0)
        for line in ("add stop", "add pay 100", "drop 9", "hear 1 +", "allow 0", "allow 7", "try +"):
            self.check(full, line, "error TooManyEdits")
        self.check_all(full, ("redo", "error NothingToRedo"), ("undo", "ok 59"), ("redo", "ok 60"))

    def test_busy(self):
        bench = Bench(TWO)
        console = Console(bench)
        seen = []

        def watch(held):
            for line in ("add stop", "drop 9", "hear 1 +", "allow 7", "try 0", "undo", "redo"):
                self.assertEqual(console.execute(line), "error Busy")
            seen.append([console.execute(line) for line in ("left", "tries", "heard", "signs 1", "text", "undo 1")])

        self.assertEqual(bench.attempt([("drop", 1), ("hear", 5, 1)], watch=watch), 2)
        self.assertEqual(seen, [["0", "0", "nothing", "+", "box |   program |     pay n", UNKNOWN],
                                ["0", "0", "5 +", "+", "box |   program |     pay n", UNKNOWN]])
        self.assertEqual(console.execute("undo"), "ok 0")

    def test_try(self):
        bench = Bench(STARS)
        for version in range(1, 5):
            number = bench.to_try()
            self.check(bench, "try 0", f"ok {version}")
            self.assertEqual(bench.edits()[-1], ("hear", number, 0))
        self.check(bench, "try 0", "error Settled")
        self.check(Bench(TWO), "try +", "ok 1")
        self.check(Bench(TWO), "try -", "ok 1")

    def test_integers(self):
        digits = "1" + "2" * 39
        for figures in ("0", "7", "-7", "10", "-10", digits, "-" + digits, "9" * 40, "1" + "0" * 39, "9" * 21):
            bench = Bench(TWO)
            self.check(bench, f"hear {figures} +", "ok 1")
            self.assertEqual(sort_of(bench.heard), sort_of(((int(figures), 1),)))
            self.check(bench, "heard", f"{figures} +")
            if figures != "0":
                self.check(bench, f"drop {figures}", "error NoProgram")
                self.check(bench, f"allow {figures}", "error BadLies")
            self.assertNotEqual(Console(bench).execute(f"signs {figures}"), UNKNOWN)
        for figures in ("-0", "00", "01", "-01", "007", "+1", "--1", "-", "", "1-", "1.0", "1e2", "0x1", "1_0", "one", "n", "(1)", "9" * 41,
                        "-" + "9" * 41, "1" + "0" * 40, "0" * 40, "9" * 3000, "True", "None", "1\n", "\n1"):
            for line in (f"drop {figures}", f"hear {figures} +", f"allow {figures}", f"signs {figures}"):
                self.check(Bench(TWO), line, UNKNOWN)

    def test_numbers_with_more_digits_that_were_heard(self):
        bench = Bench(FAR_THREE)
        self.check_all(bench, ("try 0", "ok 1"), ("heard", f"{FAR_ZERO} 0"), ("left", "0"), (f"signs {FAR_ZERO}", UNKNOWN))
        self.check(Bench((FAR,), ((BIG, 1), (-BIG, -1))), "heard", f"{BIG} +, {-BIG} -")

    def test_signs(self):
        for mark, sign in (("-", -1), ("0", 0), ("+", 1)):
            bench = Bench(TWO)
            self.check_all(bench, (f"hear 3 {mark}", "ok 1"), ("heard", f"3 {mark}"))
            self.assertEqual(bench.heard, ((3, sign),))
        for mark in ("", "1", "-1", "+1", "00", "--", "-0", "0+", "-0+", "*", "plus", "n", "++", "+ ", " +", "+\n"):
            self.check(Bench(TWO), f"hear 3 {mark}", UNKNOWN)
            self.check(Bench(TWO), f"try {mark}", UNKNOWN)

    def test_lines_that_are_near_to_commands(self):
        lines = ("drop 0", "hear 3 +", "allow 1", "try 0", "undo", "redo", "add stop", "add pay n", "text", "left", "tries", "heard", "signs 1")
        for line in lines:
            bench = Bench(STARS)
            bench.allow(0)
            bench.allow(0)
            bench.undo()
            self.assertNotEqual(Console(bench).execute(line), UNKNOWN)
            words = line.split(" ")
            near = [line + " ", " " + line, line + "\n", "\n" + line, line.upper(), line.title(), line.replace(" ", "  "), line + " 0", line + " n",
                    line + ".", line + ";", line.replace(" ", ""), line.replace(" ", "\n"), line.replace(" ", ","), line[1:], line[:-1] + " ",
                    words[0] + "s " + " ".join(words[1:]), line + line, line + " " + line, line + " | " + line, f'"{line}"', line + " stop",
                    " ".join(words[::-1]) + " ", words[0] + " ", words[0].upper()]
            for other in near:
                if other not in lines and other.strip(" ") not in ("",) and other != line:
                    self.check(bench, other, UNKNOWN)
            if len(words) > 1:
                self.check(bench, words[0], UNKNOWN)
        for line in ("", " ", "\n", "change 0 stop", "change 0", "attempt", "try_next 0", "to_try", "state", "told 1", "edits", "len", "str", "quit",
                     "help", "hear", "hear 3", "hear + 3", "hear 3 + +", "box", "stop", "pay n", "add", "0", "N", "drop N", "hear N S", "try S"):
            self.check(Bench(TWO), line, UNKNOWN)

    def test_any_value(self):
        for value in (*ODD_VALUES, deep_list(20), deep_tuple(20), ("undo",), ["undo"], {"undo": 1}, TWO, (None,) * 3999, ("hear", 1, 1)):
            self.check(Bench(TWO), value, UNKNOWN)

    def test_two_consoles_of_one_bench(self):
        bench = Bench(TWO)
        one, other = Console(bench), Console(bench)
        self.assertEqual([one.execute("allow 1"), other.execute("add stop"), one.execute("undo"), other.execute("redo")], ["ok 1", "ok 2", "ok 1", "ok 2"])
        bench.drop(0)
        self.assertEqual(one.execute("text"), "box |   program |     pay (n - 2) |   program |     stop")
        self.assertEqual(other.execute("text"), one.execute("text"))
        self.assertEqual([other.execute("undo"), len(bench), bench.family], ["ok 2", 2, (*TWO, (STOP,))])

    def test_the_example(self):
        console = Console(Bench(((("pay", "n"),), (("pay", 2),))))
        self.assertEqual([console.execute(line) for line in ('add pay (n + 1)', 'signs -1', 'tries', 'hear -1 0', 'left', 'heard', 'allow 2', 'allow 1', 'left', 'drop 7', 'add stop', 'text', 'hear 1  +')],
                         ['ok 1', '- + 0', '1', 'ok 2', '2', '-1 0', 'error BadLies', 'ok 3', '0, 1, 2', 'error NoProgram', 'ok 4', 'box |   program |     pay n |   program |     pay 2 |   program |     pay (n + 1) |   program |     stop', 'unknown command'])


if __name__ == "__main__":
    unittest.main()
