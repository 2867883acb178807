"""Books: formulas with questions and papers about them, as texts."""

from rebut.errors import BadText
from rebut.papers import check, decide, is_question
from rebut.texts import read_formula, read_value, write_formula, write_value

QUESTION_MARK = "? "
PAPER_MARK = "! "


def write_book(formula, questions):
    """The book with a formula, some questions, and papers for them."""
    lines = []
    for question in questions:
        paper = decide(formula, question)
        lines.append(f"{QUESTION_MARK}{write_value(question)}\n{PAPER_MARK}{write_value(paper)}\n")
    return write_formula(formula) + "".join(lines)


def read_marked(line, mark):
    """The value of a line behind a mark; raises BadText if it is not there."""
    if not line.startswith(mark):
        raise BadText("a line of an entry does not begin as it should")
    return read_value(line[len(mark):])


def read_entries(lines):
    """The list of the pairs of a question and a paper of the lines of entries."""
    if len(lines) % 2 != 0:
        raise BadText("the last entry has no paper")
    return [(read_marked(lines[at], QUESTION_MARK), read_marked(lines[at + 1], PAPER_MARK))
            for at in range(0, len(lines), 2)]


def read_book(text):
    """The formula of a book, and the list of its entries; raises BadText if the text is no book."""
    lines = text.split("\n")
    if lines.pop() != "":
        raise BadText("the last line does not end with a line feed")
    # No line of a formula begins with the mark of a question.
    starts = [at for at, line in enumerate(lines) if line.startswith(QUESTION_MARK)]
    start = starts[0] if starts else len(lines)
    formula = read_formula("".join([line + "\n" for line in lines[:start]]))
    return (formula, read_entries(lines[start:]))


def book_faults(text):
    """The ascending list of the indexes of entries that are not right; raises BadText if the text is no book."""
    formula, entries = read_book(text)
    return [at for at, (question, paper) in enumerate(entries)
            if not is_question(question) or not check(formula, question, paper)]
