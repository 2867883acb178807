import itertools
import random
import unittest

import oracles
from rebut.clauses import made_formula
from rebut.console import run_console
from rebut.desk import Desk
from rebut.errors import BadLine, RebutError
from rebut.numbers import number_of
from rebut.papers import KINDS, decide
from rebut.texts import write_formula

COMMANDS = ["show", "solve", "core"] + [f"is {kind} {k}" for kind in KINDS for k in (0, 2)] + [f"number {kind}" for kind in KINDS]


class Console(unittest.TestCase):
    def wrong_at(self, text, line):
        with self.assertRaises(BadLine, msg=text) as caught:
            run_console(text)
        self.assertEqual(caught.exception.line, line, text)


class Commands(Console):
    def test_example(self):
        self.assertEqual(run_console("variables 1\nadd 1\nadd -1\nsolve\nnumber depth\nis leaves 1\n"), "added\nadded\nno model\n1\nno\n")

    def test_variables(self):
        self.assertEqual(run_console("variables 3"), "")
        self.assertEqual(run_console("variables 0\nshow"), "formula 0\n")
        self.assertEqual(run_console("variables 40\nshow"), "formula 40\n")
        self.assertEqual(run_console("variables 40\nadd 40 -39\nshow"), "added\nformula 40\n-39 40 0\n")
        for word in ("41", "-1", "-40", "100", "999999999", "1000000000", "00", "01", "040", "-0", "+1", "1.0", "x", "", "1 1", "1 ", " 1", "\u0661", "1\t"):
            self.wrong_at("variables " + word + "\n", 1)
            self.wrong_at("variables 1\nvariables " + word + "\nshow\n", 2)
        self.wrong_at("variables\n", 1)
        self.wrong_at("Variables 1\n", 1)
        self.wrong_at("variable 1\n", 1)

    def test_a_second_desk(self):
        self.assertEqual(run_console("variables 1\nadd 1\nvariables 2\nshow\nadd 2\nshow\nvariables 2\nshow\n"),
                         "added\nformula 2\nadded\nformula 2\n2 0\nformula 2\n")
        self.wrong_at("variables 2\nadd 2\nvariables 1\nadd 2\n", 4)

    def test_add(self):
        self.assertEqual(run_console("variables 3\nadd 3 -1\nadd -1 3\nadd 3 3 -1\nadd 1 -1\nadd\nadd\nadd 2\nshow\n"),
                         "added\nsame\nsame\nsame\nadded\nsame\nadded\nformula 3\n0\n-1 3 0\n2 0\n")
        for words in ("0", "4", "-4", "1 0", "1 -1 4", "1 -1 0", "01", "-01", "+1", "-0", "1000000000", "-1000000000", "999999999", "1,2", "x1", "~1", "--1",
                      "1  2", " 1", "1 ", "", "1.0", "1e0", "\u0661", "a", "-", "1 2 3 4", "1_0", "1\t2", "1\r", "1 2\r"):
            self.wrong_at("variables 3\nadd 2\nadd " + words + "\nshow\n", 3)
        self.wrong_at("variables 3\nadd1\n", 2)
        self.wrong_at("variables 3\nadds 1\n", 2)
        self.wrong_at("variables 3\nAdd 1\n", 2)
        self.wrong_at("variables 3\n add 1\n", 2)
        self.wrong_at("variables 3\nadd\t1\n", 2)
        self.wrong_at("variables 0\nadd 1\n", 2)

    def test_remove(self):
        self.assertEqual(run_console("variables 2\nadd 1\nadd 2\nadd\nremove 1\nshow\nremove 0\nremove 0\nshow\n"),
                         "added\nadded\nadded\nremoved\nformula 2\n0\n2 0\nremoved\nremoved\nformula 2\n")
        for words in (" 2", " -1", " 10", " 00", " 01", " -0", " +0", " 1000000000", " 999999999", "", " ", " 0 1", " 0 ", "  0", " x", " 0 0", " 1.0"):
            self.wrong_at("variables 2\nadd 1\nadd 2\nremove" + words + "\n", 4)
        self.wrong_at("variables 2\nremove 0\n", 2)
        self.wrong_at("variables 2\nadd 1\nremove 0\nremove 0\n", 4)

    def test_show(self):
        self.assertEqual(run_console("variables 2\nshow\nadd 2 -1\nadd\nshow\n"), "formula 2\nadded\nadded\nformula 2\n0\n-1 2 0\n")
        for line in ("show ", " show", "show 1", "Show", "shows", "show show"):
            self.wrong_at("variables 2\n" + line + "\n", 2)

    def test_solve(self):
        self.assertEqual(run_console("variables 0\nsolve\nadd\nsolve\nremove 0\nsolve\n"), "model\nadded\nno model\nremoved\nmodel\n")
        for line in ("solve ", "solve 1", "solves", "SOLVE"):
            self.wrong_at("variables 2\n" + line + "\n", 2)

    def test_is(self):
        text = "variables 2\nadd 1 2\nadd -1 2\nadd -2\n"
        for kind in KINDS:
            number = number_of((2, ((-2,), (-1, 2), (1, 2))), kind)[0]
            for k in range(6):
                wanted = "added\n" * 3 + ("yes\n" if k >= number else "no\n")
                self.assertEqual(run_console(text + f"is {kind} {k}\n"), wanted)
            self.assertEqual(run_console(text + f"is {kind} 999999999"), "added\n" * 3 + "yes\n")
            self.assertEqual(run_console(f"variables 2\nadd 1\nis {kind} 0\nis {kind} 999999999\n"), "added\nno\nno\n")
            for word in ("-1", "-0", "00", "01", "+1", "1000000000", "x", "", "1 ", " 1", "1 1", "1.0", kind):
                self.wrong_at(text + f"is {kind} {word}\n", 5)
            self.wrong_at(text + f"is {kind}\n", 5)
            self.wrong_at(text + f"is 1 {kind}\n", 5)
        for line in ("is size 1", "is Depth 1", "is depths 1", "is", "is ", "is 1", "is  1", "is (depth 1)", "is depth, 1", "isdepth 1", "Is depth 1"):
            self.wrong_at(text + line + "\n", 5)

    def test_number(self):
        text = "variables 2\nadd 1 2\nadd -1 2\nadd -2\n"
        for kind in KINDS:
            number = number_of((2, ((-2,), (-1, 2), (1, 2))), kind)[0]
            self.assertEqual(run_console(text + f"number {kind}\n"), "added\n" * 3 + f"{number}\n")
            self.assertEqual(run_console(f"variables 2\nnumber {kind}\nadd\nnumber {kind}\n"), "none\nadded\n" + ("1\n" if kind == "leaves" else "0\n"))
            for line in (f"number {kind} ", f"number  {kind}", f"number {kind} 1", f"number {kind.upper()}", f"numbers {kind}"):
                self.wrong_at(text + line + "\n", 5)
                self.wrong_at("variables 2\n" + line + "\n", 2)
        for line in ("number", "number ", "number size", "number 1", "number depth rank"):
            self.wrong_at(text + line + "\n", 5)
            # The formula has a model here, but the kind is wrong all the same.
            self.wrong_at("variables 2\n" + line + "\n", 2)

    def test_core(self):
        self.assertEqual(run_console("variables 3\ncore\nadd 1\nadd 2\nadd -1\ncore\nadd\n"), "none\nadded\nadded\nadded\ncore 2\nadded\n")
        self.assertEqual(run_console("variables 1\nadd\ncore\n"), "added\ncore 1\n")
        for line in ("core ", "core 1", "cores", " core"):
            self.wrong_at("variables 2\n" + line + "\n", 2)


class Lines(Console):
    def test_empty_texts(self):
        for text in ("", "\n", "\n\n\n", "#", "#\n", "# variables 1\n\n", "\n#show"):
            self.assertEqual(run_console(text), "")

    def test_skipped_lines(self):
        self.assertEqual(run_console("\n# first\n\n#\n#variables 7\nvariables 1\n\n# add 1\nadd -1\n\n#\nshow\n\n#"), "added\nformula 1\n-1 0\n")
        self.assertEqual(run_console("## x\nvariables 1\n#\u00e4\r\nsolve\n\n"), "model\n")

    def test_the_last_line(self):
        for line in COMMANDS + ["add 1", "remove 0", "variables 3", "add", "#", ""]:
            text = "variables 2\nadd 1\nadd -1\n" + line
            self.assertEqual(run_console(text), run_console(text + "\n"))
        self.wrong_at("variables 2\nshow\nx", 3)
        self.wrong_at("x", 1)
        self.wrong_at("variables 1\n ", 2)

    def test_variables_come_first(self):
        for line in COMMANDS + ["add 1", "add", "remove 0", "x", "number size"]:
            self.wrong_at(line, 1)
            self.wrong_at("\n# a\n\n" + line + "\nvariables 1\n", 4)

    def test_lines_are_counted_with_all_lines(self):
        self.wrong_at("\n\n#\nvariables 2\n\n# b\nadd 1\n#\nadd 3\n", 9)
        self.wrong_at("#\nvariables 2\n\n\nx\ny\n", 5)
        self.wrong_at("variables 2\nadd 3\nadd 0\n", 2)
        self.wrong_at("variables 2\nadd 1\nremove 1\nx\n", 3)

    def test_wrong_lines(self):
        for line in (" ", "  ", "\t", " #", " # a", "x", "help", "quit", "add 1;", "show\r", "\r", "variables 1 # a", "show # a", "-1 0", "0", "formula 2",
                     "model", "steps", "formula", "execute", "\x00", "show\x0bsolve", "solve\x0c", "show\u2028solve", "\ufeff"):
            self.wrong_at("variables 2\nadd 1\n" + line + "\nshow\n", 3)
            self.wrong_at(line + "\nvariables 2\n", 1)

    def test_line_ends(self):
        self.wrong_at("variables 1\r\nadd 1\r\n", 1)
        self.wrong_at("variables 1\radd 1\r", 1)
        self.wrong_at("variables 1\n\r\nshow\n", 2)


class Random(Console):
    def plain_run(self, lines):
        """What the commands report, or the number of the first wrong line; the lines are commands of the right form."""
        out = []
        n = None
        clauses = set()
        for number, line in enumerate(lines, start=1):
            words = line.split()
            if not words or line[0] == "#":
                continue
            if words[0] == "variables":
                n, clauses = int(words[1]), set()
                continue
            if n is None:
                return number
            formula = (n, tuple(sorted(clauses)))
            if words[0] == "add":
                literals = [int(word) for word in words[1:]]
                if any(not 1 <= abs(x) <= n for x in literals):
                    return number
                grown = clauses | set(made_formula(n, [literals])[1])
                out.append("added" if grown != clauses else "same")
                clauses = grown
            elif words[0] == "remove":
                if not 0 <= int(words[1]) < len(clauses):
                    return number
                clauses = clauses - {formula[1][int(words[1])]}
                out.append("removed")
            elif words[0] == "show":
                out.append(write_formula(formula)[:-1])
            elif words[0] == "is":
                out.append(decide(formula, (words[1], int(words[2])))[0])
            elif oracles.models(formula):
                out.append("model" if words[0] == "solve" else "none")
            elif words[0] == "solve":
                out.append("no model")
            elif words[0] == "number":
                out.append(str(oracles.least_number(formula, words[1])))
            else:
                out.append("core")
        return "".join(line + "\n" for line in out)

    def random_line(self, source, n):
        kind = source.random()
        if kind < 0.6:
            return " ".join(["add"] + [str(source.choice((1, -1)) * source.randint(0 if source.random() < 0.01 else 1, n)) for _ in range(source.randint(1, 3))])
        if kind < 0.65:
            return f"remove {source.randint(0, 3)}"
        if kind < 0.67:
            return f"variables {n}"
        return source.choice(COMMANDS + ["", "# a"] + ["solve"] * 5)

    def test_random(self):
        source = random.Random(81)
        reports = wrong = 0
        for _ in range(250):
            n = source.randint(1, 3)
            lines = [f"variables {n}"] * (source.random() < 0.97) + [self.random_line(source, n) for _ in range(25)]
            text = "\n".join(lines) + source.choice(("", "\n"))
            wanted = self.plain_run(lines)
            if isinstance(wanted, int):
                wrong += 1
                self.wrong_at(text, wanted)
            else:
                reports += 1
                found = run_console(text).splitlines()
                self.assertEqual("".join((line.split()[0] if line.startswith("core") else line) + "\n" for line in found), wanted)
        self.assertGreater(min(reports, wrong), 30)

    def test_sizes_of_cores(self):
        for formula in oracles.random_refutable(431, 40, 4, 10):
            text = f"variables {formula[0]}\n" + "".join(f"add {' '.join(map(str, clause))}\n" if clause else "add\n" for clause in formula[1])
            found = run_console(text + "core\n").splitlines()[-1]
            sizes = [len(core) for size in range(1, len(formula[1]) + 1) for core in itertools.combinations(range(len(formula[1])), size)
                     if not oracles.models_within(formula, core)
                     and all(oracles.models_within(formula, [b for b in core if b != a]) for a in core)]
            self.assertIn(found, [f"core {size}" for size in sizes])

    def test_changed_texts(self):
        source = random.Random(82)
        text = "variables 2\nadd 1 2\nadd -1 2\nsolve\nadd -2\nremove 1\nadd -1 2\nis depth 1\nnumber leaves\ncore\nshow\n"
        for _ in range(600):
            at = source.randrange(len(text))
            other = text[:at] + source.choice(("", source.choice("01234- \n#adshow"))) + text[at + source.randrange(2):]
            try:
                self.assertTrue(run_console(other).endswith(("\n", "")))
            except RebutError as error:
                self.assertIs(type(error), BadLine)
                before = "".join(other.splitlines(True)[:error.line - 1])
                run_console(before)
                with self.assertRaises(BadLine):
                    run_console(before + other.splitlines(True)[error.line - 1])

    def test_a_desk_does_the_same(self):
        desk = Desk(3)
        out = []
        for literals in ([1, 2], [-1], [-2, 3], [-3], [1, -1], [2, 1]):
            out.append("added\n" if desk.add(literals) else "same\n")
        text = "variables 3\nadd 1 2\nadd -1\nadd -2 3\nadd -3\nadd 1 -1\nadd 2 1\nshow\ncore\n"
        self.assertEqual(run_console(text), "".join(out) + write_formula(desk.formula()) + f"core {len(desk.core())}\n")
