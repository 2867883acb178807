import unittest

import oracles
from rebut.errors import BadText
from rebut.texts import read_formula, read_value, write_formula, write_value


class Formulas(unittest.TestCase):
    def test_example(self):
        self.assertEqual(write_formula((2, ((), (-1, 2)))), "formula 2\n0\n-1 2 0\n")
        self.assertEqual(read_formula("formula 2\n0\n-1 2 0\n"), (2, ((), (-1, 2))))

    def test_edges(self):
        for formula, text in (((0, ()), "formula 0\n"), ((0, ((),)), "formula 0\n0\n"), ((40, ()), "formula 40\n"),
                              ((40, ((-40, 39),)), "formula 40\n-40 39 0\n"),
                              ((10, ((-10,), (10,))), "formula 10\n-10 0\n10 0\n")):
            self.assertEqual(write_formula(formula), text)
            self.assertEqual(read_formula(text), formula)

    def test_there_and_back(self):
        for formula in oracles.random_formulas(11, 200, 40, 30, 6):
            text = write_formula(formula)
            self.assertTrue(text.endswith("\n") and text.startswith("formula "))
            self.assertEqual(text.count("\n"), len(formula[1]) + 1)
            back = read_formula(text)
            self.assertEqual(back, formula)
            self.assertEqual((type(back), type(back[1])), (tuple, tuple))

    def test_wrong_texts(self):
        for text in ("", "\n", " ", "0\n", "formula\n", "formula \n", "formula 2", "formula  2\n", " formula 2\n",
                     "formula 2 \n", "Formula 2\n", "formulas 2\n", "formula 2 0\n", "formula 2 1 0\n", "formula -1\n",
                     "formula -0\n", "formula +2\n", "formula 02\n", "formula 00\n", "formula 41\n", "formula 400\n",
                     "formula x\n", "formula 2.0\n", "formula 2\r\n", "formula\t2\n", "formula\u00a02\n",
                     "formula \u0662\n", "formula \u00b2\n", "formula \uff12\n", "formula 2\n\n", "\nformula 2\n",
                     "# formula 2\n", "formula 2\x0b", "formula 2\u2028", "formula 2\n0\x0c", "formula 2\x000\n",
                     "formula 1_0\n", "\ufeffformula 2\n", "formula --1\n", "formula -\n", "formula 2-\n"):
            self.check(text)

    def test_wrong_lines(self):
        for line in ("", " ", "1", "1 ", "1 0 ", " 1 0", "1  0", "-1 2", "0 0", "1 0 0", "0 1 0", "1 0 2 0", "01 0",
                     "1 00", "1 -0", "-0", "+1 0", "1 +0", "-01 0", "- 1 0", "--1 0", "1 2 0\r", "1\t0", "1\u00a00",
                     "1\u20030", "\u0661 0", "1 \u0660", "\uff11 0", "\u00b9 0", "2 1 0", "1 1 0", "-1 1 0", "1 -1 0",
                     "1 -2 0", "3 0", "-3 0", "40 0", "99999999999999999999 0", "1.0 0", "x 0", "1,2 0", "1 2 0 # a",
                     "1 2\x0b0", "1 2\x1c0", "1 2 0\x85", "1 2 0\u2028", "1_0 0", "1e0 0", "0x1 0", "1 O"):
            self.check("formula 2\n" + line + "\n")
            self.check("formula 2\n0\n" + line + "\n")

    def test_wrong_orders(self):
        for lines in ("1 0\n1 0\n", "0\n0\n", "1 0\n0\n", "1 0\n-1 0\n", "1 2 0\n1 0\n", "2 0\n1 2 0\n",
                      "-1 0\n-2 0\n", "0\n1 0\n1 0\n"):
            self.check("formula 2\n" + lines)

    def test_missing_line_feeds(self):
        for text in ("formula 2\n0", "formula 2\n1 0\n2 0", "formula 2\n1 0\n2 0\n ", "formula 2 1 0\n",
                     "formula 2\n1 0 2 0\n", "formula 2\n1 0\n\n2 0\n", "formula 2\n1 0\n\n"):
            self.check(text)

    def test_long_numbers(self):
        for digits in ("1" * 5000, "0" * 5000, "9" * 100000, "-" + "1" * 5000, "-" * 5000, "\u0661" * 5000):
            self.check("formula " + digits + "\n")
            self.check("formula 2\n" + digits + " 0\n")
            self.check("formula 2\n1 " + digits + "\n")

    def check(self, text):
        with self.assertRaises(BadText, msg=repr(text[:60])):
            read_formula(text)


class Values(unittest.TestCase):
    def test_there_and_back(self):
        for value, text in ((0, "0"), (7, "7"), (-7, "-7"), (10 ** 29, "1" + "0" * 29), (-10 ** 29, "-1" + "0" * 29),
                            ("a", "a"), ("yes", "yes"), ("a_1", "a_1"), ("z9_", "z9_"), ((), "()"), ((1,), "(1)"),
                            ((1, -2, "x"), "(1 -2 x)"), (((),), "(())"), (((), ()), "(() ())"),
                            ((1, (2, ("a", ()), 3), (), "b"), "(1 (2 (a ()) 3) () b)"),
                            ((((1,), 2),), "(((1) 2))")):
            self.assertEqual(write_value(value), text)
            back = read_value(text)
            self.assertEqual(back, value)
            self.assertIs(type(back), type(value))

    def test_digits(self):
        for digits in (1, 29, 30):
            for sign in ("", "-"):
                text = sign + "9" * digits
                self.assertEqual(read_value(text), int(text))
                self.assertEqual(read_value("(" + text + " a)"), (int(text), "a"))
        for text in ("9" * 31, "-" + "9" * 31, "(" + "1" * 31 + ")", "1" * 5000, "-" + "1" * 5000, "1" * 300000,
                     "(1 " + "2" * 300000 + ")"):
            self.check(text)

    def test_brackets(self):
        for depth in (1, 2, 199, 200):
            value = oracles.nested(depth - 1, (), tuple)
            self.assertEqual(read_value("(" * depth + ")" * depth), value)
            self.assertEqual(write_value(value), "(" * depth + ")" * depth)
            self.assertEqual(read_value("(" * depth + "1" + ")" * depth), oracles.nested(depth, 1, tuple))
        side = "(" * 199 + ")" * 199
        self.assertEqual(read_value("(" + side + " " + side + ")")[1], oracles.nested(198, (), tuple))
        for depth in (201, 202, 1000, 300000):
            self.check("(" * depth + ")" * depth)
            self.check("(" * depth + "1" + ")" * depth)
            self.check("(" * depth)
            self.check(")" * depth)
            self.check("( " * depth)
            self.check("(1 " * depth)
            self.check("(1 " * depth + "1" + ")" * depth)
            self.check("()" * depth)
        self.check("(" + side + " (" + side + "))")

    def test_long_texts(self):
        self.assertEqual(read_value("a" * 300000), "a" * 300000)
        self.assertEqual(read_value("(" + "1 " * 99999 + "1)"), (1,) * 100000)
        self.check("1 " * 300000)
        self.check(" " * 300000)
        self.check("-" * 300000)
        self.check("_" * 300000)
        self.check("a" * 300000 + "A")

    def test_wrong_texts(self):
        for text in ("", " ", "\n", "01", "00", "-0", "-00", "-01", "+1", "--1", "-", "1-", "1.0", "1_0", "0x1", "1e3",
                     "A", "aB", "Yes", "1a", "_a", "_", "-a", "a-b", "a.b", "\u00e4", "a\u00e4", "\u0661", "1\u0661",
                     "\uff11", "a\u00b2", "\u00b9", " 1", "1 ", " a", "a ", "a\n", "1\n", "\t1", "1\r", "(1 2) ",
                     " (1)", "( 1)", "(1 )", "( )", "(1  2)", "(1\t2)", "(1\n2)", "(1\u00a02)", "(", ")", "(1", "1)",
                     "((1)", "(1))", "())", "(()", ")(", "1 2", "a b", "() ()", "(1) 2", "1 (2)", "()()", "(1)(2)",
                     "a()", "()a", "(a)b", "a(b)", "(1(2))", "((1)2)", "(1,2)", "'a'", "\"a\"", "a'b", "[1]", "(1 2",
                     "(1 2)) ", "(a () b))", "((a) (b)", "True ", "None", "(01)", "(-0)", "(+1)", "(A)", "(1 _)",
                     "\ufeff1", "1\x00", "\x00"):
            self.check(text)

    def check(self, text):
        with self.assertRaises(BadText, msg=repr(text[:60])):
            read_value(text)
