import random
import unittest

import oracles
from rebut.books import book_faults, read_book, write_book
from rebut.errors import BadQuestion, BadText, RebutError
from rebut.papers import KINDS, check, decide
from rebut.texts import write_formula, write_value

ONE = (1, ((-1,), (1,)))
HEAD = "formula 1\n-1 0\n1 0\n"
FIRST = "? (depth 1)\n! (yes (ask 1 (leaf 1) (leaf 0)))\n"
SECOND = "? (depth 0)\n! (no (((() 1))))\n"
TREE = ("yes", ("ask", 1, ("leaf", 1), ("leaf", 0)))


class WriteBook(unittest.TestCase):
    def test_examples(self):
        self.assertEqual(write_book(ONE, []), HEAD)
        self.assertEqual(write_book((0, ()), []), "formula 0\n")
        self.assertEqual(write_book(ONE, [("depth", 1)]), HEAD + FIRST)
        self.assertEqual(write_book(ONE, [("depth", 0)]), HEAD + "? (depth 0)\n! (no ((() 1)))\n")
        self.assertEqual(write_book((0, ()), [("width", 0)]), "formula 0\n? (width 0)\n! (no ())\n")

    def test_every_question(self):
        for formula in [ONE, (0, ()), (0, ((),))] + list(oracles.random_formulas(241, 30, 4, 8)):
            questions = [(kind, k) for kind in KINDS for k in (0, 1, 2, 5, 10 ** 29 - 1)]
            text = write_book(formula, questions)
            self.assertIs(type(text), str)
            self.assertTrue(text.startswith(write_formula(formula)))
            found, entries = read_book(text)
            self.assertEqual(found, formula)
            self.assertEqual([question for question, _ in entries], questions)
            for question, paper in entries:
                self.assertIs(check(formula, question, paper), True)
            self.assertEqual(text, write_formula(formula) + "".join(
                "? " + write_value(question) + "\n! " + write_value(paper) + "\n" for question, paper in entries))
            self.assertEqual(book_faults(text), [])

    def test_questions_several_times(self):
        questions = [("depth", 1), ("leaves", 2), ("depth", 1), ("depth", 1)]
        text = write_book(ONE, questions)
        self.assertEqual([question for question, _ in read_book(text)[1]], questions)
        self.assertEqual(text.count("? (depth 1)\n"), 3)
        self.assertEqual(questions, [("depth", 1), ("leaves", 2), ("depth", 1), ("depth", 1)])

    def test_wrong_questions(self):
        for bad in [("depth", -1), ("size", 1), ("depth", True), ["depth", 1], ("depth",), None, 0, "depth", ()] + (
                oracles.strange_values()):
            for questions in ([bad], [("depth", 1), bad], [bad, ("depth", 1)]):
                with self.assertRaises(BadQuestion):
                    write_book(ONE, questions)


class ReadBook(unittest.TestCase):
    def test_examples(self):
        self.assertEqual(read_book(HEAD), (ONE, []))
        self.assertEqual(read_book(HEAD + FIRST), (ONE, [(("depth", 1), TREE)]))
        self.assertEqual(read_book("formula 0\n? 0\n! a\n? (b)\n! ()\n"), ((0, ()), [(0, "a"), (("b",), ())]))
        self.assertIs(type(read_book(HEAD)), tuple)
        self.assertIs(type(read_book(HEAD)[1]), list)
        self.assertIs(type(read_book(HEAD + FIRST)[1][0]), tuple)

    def test_any_values(self):
        for question, paper in ((1, 2), ("size", ()), (("depth", -1), ("maybe", 7)), ((), ()), ((((),),), "x" * 500),
                                (-(10 ** 30 - 1), ("a", (1, (2, (3,)))))):
            text = HEAD + "? " + write_value(question) + "\n! " + write_value(paper) + "\n"
            self.assertEqual(read_book(text), (ONE, [(question, paper)]))
            self.assertEqual(book_faults(text), [0])

    def bad_texts(self):
        yield from ("", "\n", " ", "x", "\n" + HEAD, HEAD[:-1], HEAD + FIRST[:-1], HEAD + FIRST + "\n", HEAD + "\n" + FIRST)
        # The formula is missing, broken, or not of the right form.
        yield from (FIRST, HEAD[1:] + FIRST, "formula 41\n" + FIRST, "formula 1\n1 0\n-1 0\n" + FIRST, "formula 1\n2 0\n",
                    "formula 1\n1\n" + FIRST, "formula 01\n", "formula 1 \n", "Formula 1\n", "formula\n" + FIRST,
                    "formula 1\n1  0\n", "formula -1\n" + FIRST, "formula 1\n1 0\n1 0\n")
        # Lines of an entry alone, exchanged, or without what they begin with.
        question, paper = FIRST.splitlines(True)
        yield from (HEAD + question, HEAD + paper, HEAD + paper + question, HEAD + FIRST + question, HEAD + FIRST + paper,
                    HEAD + question + question + paper, HEAD + question + paper + paper, HEAD + question + question,
                    HEAD + question + question + paper + paper, HEAD + question + "\n" + paper, HEAD + FIRST + "x\n",
                    HEAD + FIRST + "-1 0\n", HEAD + FIRST + HEAD, HEAD + FIRST + "1 0\n" + FIRST, HEAD + FIRST + " \n",
                    HEAD + FIRST + "formula 1\n", FIRST + HEAD)
        # A blank more or less.
        yield from (HEAD + "?(depth 1)\n" + paper, HEAD + "?  (depth 1)\n" + paper, HEAD + " ? (depth 1)\n" + paper,
                    HEAD + "? (depth 1) \n" + paper, HEAD + "? ( depth 1)\n" + paper, HEAD + "? (depth  1)\n" + paper,
                    HEAD + "? (depth1 )\n" + paper, HEAD + question + "!" + paper[2:], HEAD + question + "! " + paper[1:],
                    HEAD + question + " " + paper, HEAD + question + paper[:-1] + " \n", HEAD + "?\n!\n", HEAD + "? \n! \n",
                    HEAD + question + "! \n", HEAD + question + "!\n", HEAD + "?\t(depth 1)\n" + paper)
        # Texts of values that are none.
        for bad in ("(", ")", "(depth 1", "depth 1", "(depth 1))", "Depth", "01", "+1", "-0", "1.5", "(1,2)", "()()", "1" * 31,
                    "-" + "1" * 31, "_a", "a-b", "\u0661", "(a b )", "\r", "(depth 1)\r", "(" * 201 + ")" * 201, "(" * 5000,
                    "(" * 100000 + ")" * 100000, "?", "!", "? 1", "\x00"):
            yield HEAD + "? " + bad + "\n" + paper
            yield HEAD + question + "! " + bad + "\n"
            yield HEAD + FIRST + question + "! " + bad + "\n"

    def test_bad_texts(self):
        for text in self.bad_texts():
            for function in (read_book, book_faults):
                with self.assertRaises(BadText):
                    function(text)

    def test_deep_brackets(self):
        deep = "(" * 200 + ")" * 200
        self.assertEqual(len(read_book(HEAD + "? " + deep + "\n! " + deep + "\n")[1]), 1)
        self.assertEqual(book_faults(HEAD + "? " + deep + "\n! " + deep + "\n"), [0])
        self.assertEqual(book_faults(HEAD + "? (depth 1)\n! (yes " + deep[1:-1] + ")\n"), [0])

    def test_changed_texts(self):
        source = random.Random(25)
        text = write_book((2, ((-2,), (-1, 2), (1,))), [("depth", 1), ("leaves", 3), ("degree", 1), ("width", 2)])
        signs = "01 ()\n?!-ax"
        for _ in range(1500):
            at = source.randrange(len(text))
            other = text[:at] + source.choice(("", source.choice(signs))) + text[at + source.randrange(2):]
            try:
                formula, entries = read_book(other)
            except RebutError as error:
                self.assertIs(type(error), BadText)
                with self.assertRaises(BadText):
                    book_faults(other)
                continue
            again = write_formula(formula) + "".join(
                "? " + write_value(question) + "\n! " + write_value(paper) + "\n" for question, paper in entries)
            self.assertEqual(again, other)
            for at in book_faults(other):
                self.assertLess(at, len(entries))


class BookFaults(unittest.TestCase):
    def test_examples(self):
        self.assertEqual(book_faults("formula 1\n-1 0\n1 0\n? (depth 1)\n! (yes (ask 1 (leaf 1) (leaf 0)))\n"
                                     "? (depth 0)\n! (no ())\n"), [1])
        self.assertEqual(book_faults(HEAD), [])
        self.assertEqual(book_faults(HEAD + FIRST + FIRST), [])
        self.assertEqual(book_faults(HEAD + SECOND), [0])
        self.assertEqual(book_faults(HEAD + SECOND + FIRST + SECOND), [0, 2])

    def test_what_is_no_question(self):
        for bad in ("(depth)", "(depth -1)", "depth", "0", "()", "(size 1)", "(1 depth)", "(depth 1 1)", "(depth (1))",
                    "((depth) 1)", "(depth depth)", "(yes 1)", "((depth 1))"):
            text = HEAD + "? " + bad + "\n" + FIRST.splitlines(True)[1]
            self.assertEqual(book_faults(text + FIRST + text[len(HEAD):]), [0, 2], bad)

    def test_papers_that_are_not_right(self):
        for bad in ("yes", "()", "(yes)", "(no)", "(no ())", "(yes (leaf 0))", "(yes (ask 1 (leaf 0) (leaf 1)))", "1",
                    "(maybe (ask 1 (leaf 1) (leaf 0)))", "(yes (ask 1 (leaf 1) (leaf 0)) 0)", "(no (ask 1 (leaf 1) (leaf 0)))",
                    "((ask 1 (leaf 1) (leaf 0)) yes)", "(no ((() 2)))"):
            self.assertEqual(book_faults(HEAD + FIRST + "? (depth 1)\n! " + bad + "\n" + FIRST), [1], bad)

    def test_papers_of_other_questions(self):
        for formula in oracles.random_formulas(242, 40, 3, 8):
            questions = [(kind, k) for kind in KINDS for k in range(4)]
            papers = [decide(formula, question) for question in questions]
            moved = papers[1:] + papers[:1]
            text = write_formula(formula) + "".join(
                f"? {write_value(question)}\n! {write_value(paper)}\n" for question, paper in zip(questions, moved))
            wanted = [at for at, (question, paper) in enumerate(zip(questions, moved))
                      if not check(formula, question, paper)]
            found = book_faults(text)
            self.assertEqual(found, wanted)
            self.assertIs(type(found), list)
