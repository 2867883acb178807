import copy
import random
import re
import unittest

import oracles
from rebut.errors import BadLine
from rebut.families import chain_formula, pigeon_formula
from rebut.reports import read_report, report_faults, statistics, write_report
from rebut.resolution import pruned, step_depth, step_width
from rebut.solving import solve

ONE = (1, ((-1,), (1,)))
STEPS = (("axiom", 1), ("axiom", 0), ("resolve", 0, 1, 1))
TEXT = "0: x1 clause 1\n1: ~x1 clause 0\n2: false from 0 and 1 by 1\n"
FORMULA = (12, ((-12, -2, 10), (-10, 3), (2,)))
LONG = (("axiom", 0), ("axiom", 2), ("resolve", 1, 0, 2), ("weaken", 2, (-12, 1, 10)), ("axiom", 1), ("resolve", 3, 4, 10), ("axiom", 2))
LONG_TEXT = ("0: ~x12 | ~x2 | x10 clause 0\n1: x2 clause 2\n2: ~x12 | x10 from 1 and 0 by 2\n3: ~x12 | x1 | x10 from 2\n"
             "4: ~x10 | x3 clause 1\n5: ~x12 | x1 | x3 from 3 and 4 by 10\n6: x2 clause 2\n")
NUMBER = r"(?:0|[1-9][0-9]{0,8})"
LITERAL = rf"~?x{NUMBER}"
LINE = re.compile(rf"({NUMBER}): (false|{LITERAL}(?: \| {LITERAL})*) (?:clause ({NUMBER})|from ({NUMBER})(?: and ({NUMBER}) by ({NUMBER}))?)")


def plain_clause(n, text):
    """The clause of a text of the right form, or None if the literals are not those of a clause."""
    if text == "false":
        return ()
    clause = [-int(word[2:]) if word[0] == "~" else int(word[1:]) for word in text.split(" | ")]
    if clause != sorted(set(clause)) or any(-x in clause for x in clause) or not all(1 <= abs(x) <= n for x in clause):
        return None
    return tuple(clause)


def plain_faults(text, formula):
    """The numbers of the lines that are not right, by the words of the document."""
    faults = []
    said = []
    for number, line in enumerate(re.findall(r"[^\n]*\n|[^\n]+$", text), start=1):
        found = LINE.fullmatch(line[:-1]) if line.endswith("\n") else None
        clause = plain_clause(formula[0], found[2]) if found else None
        if clause is None:
            faults.append(number)
            said.append(())
            continue
        place, index, a, b, v = (None if word is None else int(word) for word in found.group(1, 3, 4, 5, 6))
        right = place == number - 1
        if index is not None:
            right = right and index < len(formula[1]) and formula[1][index] == clause
        elif v is None:
            right = right and a < len(said) and set(said[a]) <= set(clause)
        elif right and a < len(said) and b < len(said) and v in said[a] and -v in said[b]:
            rest = (set(said[a]) | set(said[b])) - {v, -v}
            right = tuple(sorted(rest)) == clause
        else:
            right = False
        if not right:
            faults.append(number)
        said.append(clause)
    return faults


def derivations():
    """Pairs of formulas and derivations of many sorts."""
    yield ONE, STEPS
    yield FORMULA, LONG
    yield (0, ((),)), (("axiom", 0),)
    yield (40, ((), (-40, 39))), (("axiom", 1), ("axiom", 0), ("weaken", 1, (-1, 40)), ("axiom", 1))
    for formula in (chain_formula(40), pigeon_formula(3, 2)):
        yield formula, solve(formula)[1]
    for formula, steps in oracles.random_refutations(421, 60):
        yield formula, steps
        yield formula, steps[:len(steps) // 2 + 1]


class WriteReport(unittest.TestCase):
    def test_examples(self):
        self.assertEqual(write_report(ONE, STEPS), TEXT)
        self.assertEqual(write_report(FORMULA, LONG), LONG_TEXT)
        self.assertEqual(write_report((0, ((),)), (("axiom", 0),)), "0: false clause 0\n")
        formula = (3, ((-1, 2), (-2, 3)))
        steps = (("axiom", 0), ("axiom", 1), ("resolve", 0, 1, 2))
        self.assertEqual(write_report(formula, steps).splitlines()[2], "2: ~x1 | x3 from 0 and 1 by 2")

    def test_many(self):
        for formula, steps in derivations():
            before = copy.deepcopy((formula, steps))
            text = write_report(formula, steps)
            self.assertEqual(plain_faults(text, formula), [])
            self.assertEqual(text.count("\n"), len(steps))
            self.assertEqual(before, (formula, steps))


class ReadReport(unittest.TestCase):
    def wrong_at(self, text, line, formula=FORMULA):
        with self.assertRaises(BadLine) as caught:
            read_report(text, formula)
        self.assertEqual(caught.exception.line, line, text)

    def test_examples(self):
        self.assertEqual(read_report(TEXT, ONE), STEPS)
        self.assertEqual(read_report(LONG_TEXT, FORMULA), LONG)

    def test_there_and_back(self):
        for formula, steps in derivations():
            found = read_report(write_report(formula, steps), formula)
            self.assertIs(type(found), tuple)
            self.assertEqual(found, steps)
            self.assertEqual(report_faults(write_report(formula, steps), formula), [])

    def test_no_lines(self):
        self.wrong_at("", 1)
        self.assertEqual(report_faults("", FORMULA), [])

    def test_the_last_line_feed(self):
        self.wrong_at(LONG_TEXT[:-1], 7)
        self.assertEqual(report_faults(LONG_TEXT[:-1], FORMULA), [7])
        self.wrong_at("0: x1 clause 1", 1, ONE)
        self.wrong_at("x", 1)
        self.wrong_at(LONG_TEXT + " ", 8)
        self.assertEqual(report_faults(LONG_TEXT + "7: x2 clause 2", FORMULA), [8])

    def test_empty_lines(self):
        self.wrong_at("\n", 1)
        self.assertEqual(report_faults("\n", FORMULA), [1])
        self.assertEqual(report_faults("\n\n\n", FORMULA), [1, 2, 3])
        self.wrong_at("\n" + LONG_TEXT, 1)
        self.assertEqual(report_faults("\n" + LONG_TEXT, FORMULA), list(range(1, 9)))
        self.wrong_at(LONG_TEXT + "\n", 8)
        self.assertEqual(report_faults(LONG_TEXT + "\n", FORMULA), [8])
        lines = LONG_TEXT.splitlines(True)
        self.wrong_at("".join(lines[:3]) + "\n" + "".join(lines[3:]), 4)

    def test_other_line_ends(self):
        for end in ("\r\n", "\r", "\x0b\n", "\x0c\n", "\x85\n", "\u2028\n", " \n", "\t\n", "\x00\n", ";\n"):
            self.wrong_at(LONG_TEXT.replace("\n", end), 1)
        self.wrong_at(TEXT.replace("\n", "\r\n"), 1, ONE)
        self.assertEqual(report_faults(TEXT.replace("\n", "\r\n"), ONE), [1, 2, 3])
        self.assertEqual(report_faults(TEXT.replace("\n", "\r"), ONE), [1])
        self.assertEqual(report_faults("0: x1 clause 1\r\n1: ~x1 clause 0\n", ONE), [1])

    def test_each_part_of_a_line(self):
        lines = LONG_TEXT.splitlines()
        for place, changed in (
                # The index.
                (2, "3: ~x12 | x10 from 1 and 0 by 2"), (2, "1: ~x12 | x10 from 1 and 0 by 2"), (2, "02: ~x12 | x10 from 1 and 0 by 2"),
                (2, "-2: ~x12 | x10 from 1 and 0 by 2"), (2, "+2: ~x12 | x10 from 1 and 0 by 2"), (2, ": ~x12 | x10 from 1 and 0 by 2"),
                (2, "2 ~x12 | x10 from 1 and 0 by 2"), (2, "2 : ~x12 | x10 from 1 and 0 by 2"), (2, "2:: ~x12 | x10 from 1 and 0 by 2"),
                (2, "2:~x12 | x10 from 1 and 0 by 2"), (2, "~x12 | x10 from 1 and 0 by 2"), (2, "x2: ~x12 | x10 from 1 and 0 by 2"),
                (2, "2. ~x12 | x10 from 1 and 0 by 2"), (2, "\u0662: ~x12 | x10 from 1 and 0 by 2"), (2, "2.0: ~x12 | x10 from 1 and 0 by 2"),
                # The literals.
                (2, "2: x12 | x10 from 1 and 0 by 2"), (2, "2: ~x12 | ~x10 from 1 and 0 by 2"), (2, "2: x10 | ~x12 from 1 and 0 by 2"),
                (2, "2: ~x12 | x10 | x10 from 1 and 0 by 2"), (2, "2: ~x12 | ~x12 | x10 from 1 and 0 by 2"),
                (2, "2: ~x12 | x10 | x12 from 1 and 0 by 2"), (2, "2: ~x12 | x10 | x13 from 1 and 0 by 2"), (2, "2: ~x13 | x10 from 1 and 0 by 2"),
                (2, "2: ~x12 | x0 | x10 from 1 and 0 by 2"), (2, "2: ~x12 | ~x0 | x10 from 1 and 0 by 2"), (2, "2: ~x12 | x010 from 1 and 0 by 2"),
                (2, "2: ~x012 | x10 from 1 and 0 by 2"), (2, "2: -x12 | x10 from 1 and 0 by 2"), (2, "2: x-12 | x10 from 1 and 0 by 2"),
                (2, "2: ~~x12 | x10 from 1 and 0 by 2"), (2, "2: ~ x12 | x10 from 1 and 0 by 2"), (2, "2: x~12 | x10 from 1 and 0 by 2"),
                (2, "2: ~12 | 10 from 1 and 0 by 2"), (2, "2: ~X12 | x10 from 1 and 0 by 2"), (2, "2: ~y12 | x10 from 1 and 0 by 2"),
                (2, "2: ~x | x10 from 1 and 0 by 2"), (2, "2: ~x12 | x from 1 and 0 by 2"), (2, "2: ~x12 | ~ from 1 and 0 by 2"),
                (2, "2: ~x12 | x1 0 from 1 and 0 by 2"), (2, "2: ~x+12 | x10 from 1 and 0 by 2"), (2, "2: ~x12 | x1_0 from 1 and 0 by 2"),
                (2, "2: ~x12 | x\u0661\u0660 from 1 and 0 by 2"), (2, "2: ~xx12 | x10 from 1 and 0 by 2"), (2, "2: ~x12 | x10x from 1 and 0 by 2"),
                # What is between them.
                (2, "2: ~x12 x10 from 1 and 0 by 2"), (2, "2: ~x12| x10 from 1 and 0 by 2"), (2, "2: ~x12 |x10 from 1 and 0 by 2"),
                (2, "2: ~x12|x10 from 1 and 0 by 2"), (2, "2: ~x12 || x10 from 1 and 0 by 2"), (2, "2: ~x12 | | x10 from 1 and 0 by 2"),
                (2, "2: | ~x12 | x10 from 1 and 0 by 2"), (2, "2: ~x12 | x10 | from 1 and 0 by 2"), (2, "2: ~x12  | x10 from 1 and 0 by 2"),
                (2, "2: ~x12 |  x10 from 1 and 0 by 2"), (2, "2: ~x12 , x10 from 1 and 0 by 2"), (2, "2: ~x12 or x10 from 1 and 0 by 2"),
                (2, "2: | from 1 and 0 by 2"), (2, "2:  from 1 and 0 by 2"), (2, "2: from 1 and 0 by 2"), (2, "2: ~x12 ~ x10 from 1 and 0 by 2"),
                # `false` beside literals, or in their place.
                (2, "2: false from 1 and 0 by 2"), (2, "2: false | ~x12 | x10 from 1 and 0 by 2"), (2, "2: ~x12 | x10 | false from 1 and 0 by 2"),
                (2, "2: ~x12 | false | x10 from 1 and 0 by 2"), (2, "2: false false from 1 and 0 by 2"), (2, "2: ~false from 1 and 0 by 2"),
                (2, "2: False from 1 and 0 by 2"), (2, "2: true from 1 and 0 by 2"), (2, "2: () from 1 and 0 by 2"),
                # The clause is not the one of the step.
                (2, "2: ~x12 from 1 and 0 by 2"), (2, "2: ~x12 | x1 | x10 from 1 and 0 by 2"), (2, "2: x2 from 1 and 0 by 2"),
                (2, "2: ~x12 | ~x2 | x10 from 1 and 0 by 2"), (2, "2: ~x12 | x11 from 1 and 0 by 2"), (0, "0: ~x12 | ~x2 clause 0"),
                (3, "3: ~x12 | x1 from 2"), (3, "3: x1 | x10 from 2"), (3, "3: false from 2"), (1, "1: ~x2 clause 2"), (1, "1: false clause 2"),
                # The earlier steps, the variable, and the words.
                (2, "2: ~x12 | x10 from 0 and 1 by 2"), (2, "2: ~x12 | x10 from 1 and 0 by 10"), (2, "2: ~x12 | x10 from 1 and 0 by 12"),
                (2, "2: ~x12 | x10 from 1 and 1 by 2"), (2, "2: ~x12 | x10 from 1 and 2 by 2"), (2, "2: ~x12 | x10 from 1 and 3 by 2"),
                (2, "2: ~x12 | x10 from 2 and 0 by 2"), (2, "2: ~x12 | x10 from 9 and 0 by 2"), (2, "2: ~x12 | x10 from 1 and -2 by 2"),
                (2, "2: ~x12 | x10 from -1 and 0 by 2"), (2, "2: ~x12 | x10 from 1 and 0 by -2"), (2, "2: ~x12 | x10 from 1 and 0 by 0"),
                (2, "2: ~x12 | x10 from 1 and 0 by 13"), (2, "2: ~x12 | x10 from 1 and 0 by 02"), (2, "2: ~x12 | x10 from 01 and 0 by 2"),
                (2, "2: ~x12 | x10 from 1 and 00 by 2"), (2, "2: ~x12 | x10 from 1 and -0 by 2"), (2, "2: ~x12 | x10 from 1 and 0 by x2"),
                (2, "2: ~x12 | x10 from 1 and 0"), (2, "2: ~x12 | x10 from 1 and"), (2, "2: ~x12 | x10 from 1 by 2"), (2, "2: ~x12 | x10 from 1"),
                (2, "2: ~x12 | x10 from"), (2, "2: ~x12 | x10"), (2, "2: ~x12 | x10 "), (2, "2:"), (2, "2: "), (2, " "), (2, "2"),
                (2, "2: ~x12 | x10 from 1 and 0 by 2 "), (2, " 2: ~x12 | x10 from 1 and 0 by 2"), (2, "2:  ~x12 | x10 from 1 and 0 by 2"),
                (2, "2: ~x12 | x10  from 1 and 0 by 2"), (2, "2: ~x12 | x10 from  1 and 0 by 2"), (2, "2: ~x12 | x10 from 1  and 0 by 2"),
                (2, "2: ~x12 | x10 from 1 and  0 by 2"), (2, "2: ~x12 | x10 from 1 and 0  by 2"), (2, "2: ~x12 | x10 from 1 and 0 by  2"),
                (2, "2: ~x12 | x10from 1 and 0 by 2"), (2, "2: ~x12 | x10 from1 and 0 by 2"), (2, "2: ~x12 | x10\tfrom 1 and 0 by 2"),
                (2, "2: ~x12 | x10 From 1 and 0 by 2"), (2, "2: ~x12 | x10 from 1 & 0 by 2"), (2, "2: ~x12 | x10 from 1 and 0 on 2"),
                (2, "2: ~x12 | x10 from 1 by 2 and 0"), (2, "2: ~x12 | x10 from 1 and 0 by 2 by 2"), (2, "2: ~x12 | x10 from 1 and 0 and 2"),
                (2, "2: ~x12 | x10 clause 1 and 0 by 2"), (2, "2: ~x12 | x10 from 1 and 0 by 2 from 1"), (2, "2: ~x12 | x10 clause 0"),
                (0, "0: ~x12 | ~x2 | x10 clause 1"), (0, "0: ~x12 | ~x2 | x10 clause 3"), (0, "0: ~x12 | ~x2 | x10 clause -3"),
                (0, "0: ~x12 | ~x2 | x10 clause 00"), (0, "0: ~x12 | ~x2 | x10 clause"), (0, "0: ~x12 | ~x2 | x10 clause 0 0"),
                (0, "0: ~x12 | ~x2 | x10 Clause 0"), (0, "0: ~x12 | ~x2 | x10 axiom 0"), (0, "0: ~x12 | ~x2 | x10 clause 0 and 0"),
                (0, "0: ~x12 | ~x2 | x10 from 0"), (0, "00: ~x12 | ~x2 | x10 clause 0"), (0, "-0: ~x12 | ~x2 | x10 clause 0"),
                (3, "3: ~x12 | x1 | x10 from 3"), (3, "3: ~x12 | x1 | x10 from 4"), (3, "3: ~x12 | x1 | x10 from -2"), (3, "3: ~x12 | x1 | x10 from 0"),
                (3, "3: ~x12 | x1 | x10 weaken 2"), (3, "3: ~x12 | x1 | x10 from 02"), (3, "3: ~x12 | x1 | x13 from 2"),
                (3, "3: ~x12 | x1 | x10 from 2 and"), (3, "3: x2 clause 2 and 2 by 2"), (3, "3: from from 2"), (3, "3: clause clause 2")):
            other = lines[:place] + [changed] + lines[place + 1:]
            text = "".join(line + "\n" for line in other)
            self.wrong_at(text, place + 1)
            faults = report_faults(text, FORMULA)
            self.assertEqual(faults, plain_faults(text, FORMULA), changed)
            self.assertEqual(faults[0], place + 1)

    def test_numbers_of_many_digits(self):
        for digits in ("1" * 9, "1" * 10, "9" * 9, "9" * 10, "1" * 30, "1" * 5000, "0" * 9, "0" * 10):
            for line in (f"{digits}: x2 clause 2\n", f"0: x{digits} clause 2\n", f"0: ~x{digits} clause 2\n", f"0: x2 clause {digits}\n", f"0: x2 from {digits}\n",
                         f"0: x2 from {digits} and 0 by 2\n", f"0: x2 from 0 and {digits} by 2\n", f"0: x2 from 0 and 0 by {digits}\n"):
                self.wrong_at(line, 1)
                self.assertEqual(report_faults(line + "1: x2 clause 2\n", FORMULA), [1])

    def test_lines_exchanged_doubled_and_left_out(self):
        lines = LONG_TEXT.splitlines(True)
        for at in range(len(lines)):
            self.wrong_at("".join(lines[:at] + lines[at:at + 1] + lines[at:]), at + 2)
            if at < len(lines) - 1:
                self.wrong_at("".join(lines[:at] + lines[at + 1:]), at + 1)
                self.wrong_at("".join(lines[:at] + [lines[at + 1], lines[at]] + lines[at + 2:]), at + 1)
            self.assertEqual(read_report("".join(lines[:at + 1]), FORMULA), LONG[:at + 1])

    def test_changed_texts(self):
        source = random.Random(71)
        signs = "0123456789x~| \n:fromclausebyand"
        right = 0
        for formula, text in ((FORMULA, LONG_TEXT), (ONE, TEXT)) * 2:
            for _ in range(1500):
                at = source.randrange(len(text))
                other = text[:at] + source.choice(("", source.choice(signs))) + text[at + source.randrange(2):]
                faults = plain_faults(other, formula)
                found = report_faults(other, formula)
                self.assertIs(type(found), list)
                self.assertEqual(found, faults, other)
                if faults or not other:
                    self.wrong_at(other, faults[0] if faults else 1, formula)
                else:
                    right += 1
                    self.assertEqual(write_report(formula, read_report(other, formula)), other)
        self.assertGreater(right, 20)


class ReportFaults(unittest.TestCase):
    def test_lines_are_judged_by_what_those_before_say(self):
        # The first line says a clause that is not the one of the formula; the others follow from it.
        text = "0: x2 | x3 clause 2\n1: ~x10 | x3 clause 1\n2: x1 | x2 | x3 from 0\n"
        self.assertEqual(report_faults(text, FORMULA), [1])
        text = "0: x2 clause 2\n1: ~x2 clause 2\n2: false from 0 and 1 by 2\n3: x7 from 2\n"
        self.assertEqual(report_faults(text, FORMULA), [2])
        # An index that is not that of the place: the clause is said all the same.
        text = "5: x2 clause 2\n1: x2 | x3 from 0\n"
        self.assertEqual(report_faults(text, FORMULA), [1])
        # The words name what is not there: the clause is said all the same.
        for words in ("clause 9", "from 7", "from 0", "from 3 and 999999999 by 40", "from 0 and 0 by 0"):
            self.assertEqual(report_faults(f"0: x2 {words}\n1: x2 | x3 from 0\n2: x3 from 0\n", FORMULA), [1, 3])

    def test_lines_of_another_form_say_the_empty_clause(self):
        for line in ("", "x", "0: x2 clause", "0: x2 | clause 2", "0:x2 clause 2", "0: x13 clause 2", "0: x2 | x2 clause 2", "0: ~x2 | x2 clause 2",
                     "0: x3 | x2 clause 2", "00: x2 clause 2", "0: x2 clause 1111111111", "0: x2 from 1111111111", "1111111111: x2 clause 2",
                     "0: x2 from 0 and 0 by 1111111111", "0: x1111111111 clause 2", "0: x2 clause 2 ", "0: x2 clause 02", "0: x0 clause 2"):
            self.assertEqual(report_faults(line + "\n1: x3 from 0\n2: false from 0\n3: ~x2 from 0\n", FORMULA), [1], line)
            self.assertEqual(report_faults(line + "\n1: x3 from 0 and 0 by 3\n", FORMULA), [1, 2], line)
        # Nine digits are of the form.
        for line in ("0: x2 clause 111111111", "111111111: x2 clause 2", "0: x2 from 111111111", "0: x2 from 0 and 0 by 111111111"):
            self.assertEqual(report_faults(line + "\n1: x3 from 0\n2: x2 from 0\n", FORMULA), [1, 2], line)

    def test_signs(self):
        for line in ("0: x-1 clause 0", "0: ~x-1 clause 1", "0: ~x-0 clause 1", "0: -x1 clause 0", "-0: x1 clause 1"):
            self.assertEqual(report_faults(line + "\n1: x1 from 0\n", ONE), [1], line)
        # A line with a negative number has not the form of a line, and so it says the empty clause.
        for line in ("0: x1 clause -1", "0: x1 from -1", "0: x1 from -1 and 0 by 1", "0: x1 from 0 and 0 by -1", "-1: x1 clause 1"):
            self.assertEqual(report_faults(line + "\n1: ~x1 from 0\n", ONE), [1], line)

    def test_all_and_none(self):
        self.assertEqual(report_faults(LONG_TEXT, FORMULA), [])
        self.assertEqual(report_faults(LONG_TEXT, (12, ())), [1, 2, 5, 7])
        self.assertEqual(report_faults(LONG_TEXT, (11, FORMULA[1][1:])), plain_faults(LONG_TEXT, (11, FORMULA[1][1:])))
        self.assertEqual(report_faults("a\nb\nc", ONE), [1, 2, 3])

    def test_other_formulas(self):
        source = random.Random(72)
        for formula, steps in derivations():
            text = write_report(formula, steps)
            for _ in range(3):
                clauses = tuple(clause for clause in formula[1] if source.random() < 0.7)
                other = (formula[0] - source.randint(0, 1), clauses)
                if other[0] == formula[0]:
                    self.assertEqual(report_faults(text, other), plain_faults(text, other))

    def test_mixed_lines(self):
        source = random.Random(73)
        for formula, steps in derivations():
            lines = write_report(formula, steps).splitlines(True)
            source.shuffle(lines)
            text = "".join(source.choice((line, line, line.replace("~", ""), line.replace("from", "clause"), "\n")) for line in lines)
            self.assertEqual(report_faults(text, formula), plain_faults(text, formula))


class Statistics(unittest.TestCase):
    def test_examples(self):
        self.assertEqual(statistics(ONE, STEPS), {"steps": 3, "axioms": 2, "resolvents": 1, "weakenings": 0, "width": 1, "depth": 1, "used": 3,
                                                  "different": 3, "variables": [1]})
        self.assertEqual(statistics(FORMULA, LONG), {"steps": 7, "axioms": 4, "resolvents": 2, "weakenings": 1, "width": 3, "depth": 0, "used": 1,
                                                     "different": 6, "variables": [2, 10]})
        self.assertEqual(statistics(FORMULA, LONG[:-1]), {"steps": 6, "axioms": 3, "resolvents": 2, "weakenings": 1, "width": 3, "depth": 2, "used": 6,
                                                          "different": 6, "variables": [2, 10]})
        self.assertEqual(statistics((0, ((),)), (("axiom", 0),)), {"steps": 1, "axioms": 1, "resolvents": 0, "weakenings": 0, "width": 0, "depth": 0,
                                                                   "used": 1, "different": 1, "variables": []})

    def test_unused_and_equal_steps(self):
        steps = (("axiom", 1), ("axiom", 1), ("axiom", 0), ("resolve", 0, 2, 1), ("resolve", 1, 2, 1), ("weaken", 3, ()), ("weaken", 3, (1,)), ("weaken", 4, ()))
        self.assertEqual(statistics(ONE, steps), {"steps": 8, "axioms": 3, "resolvents": 2, "weakenings": 3, "width": 1, "depth": 1, "used": 4,
                                                  "different": 3, "variables": [1]})

    def test_many(self):
        for formula, steps in derivations():
            before = copy.deepcopy((formula, steps))
            clauses = oracles.clauses_of_steps(formula, steps)
            found = statistics(formula, steps)
            self.assertIs(type(found), dict)
            wanted = {"steps": len(steps), "width": max(len(clause) for clause in clauses), "depth": step_depth(steps), "used": len(pruned(steps)),
                      "different": len(set(clauses)), "variables": sorted({step[3] for step in steps if step[0] == "resolve"})}
            for name, word in (("axioms", "axiom"), ("resolvents", "resolve"), ("weakenings", "weaken")):
                wanted[name] = sum(step[0] == word for step in steps)
            self.assertEqual(found, wanted)
            self.assertEqual(found["width"], step_width(formula, steps))
            self.assertIs(type(found["variables"]), list)
            found["variables"].append(0)
            self.assertEqual(statistics(formula, steps), wanted)
            self.assertEqual(before, (formula, steps))
