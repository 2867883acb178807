"""A console: commands for a desk, one in each line of a text."""

from rebut.desk import Desk
from rebut.errors import BadFormula, BadLine, BadQuestion, BadText, HasModel
from rebut.numbers import number_of
from rebut.papers import decide
from rebut.texts import read_number, write_formula

MOST_DIGITS = 9


def read_integer(word):
    """The integer of a word; raises BadText if there is none."""
    number = read_number(word, MOST_DIGITS)
    if number is None:
        raise BadText("a word is not a number that is allowed")
    return number


def number_report(formula, kind):
    """The report of the number of a formula for a kind."""
    try:
        return f"{number_of(formula, kind)[0]}\n"
    except HasModel:
        return "none\n"


def core_report(desk):
    """The report of the size of a core of the formula of a desk."""
    try:
        return f"core {len(desk.core())}\n"
    except HasModel:
        return "none\n"


class Console:
    """The desk that the commands work with."""

    def __init__(self):
        self.desk = None

    def executed(self, words):
        """Executes the command of a list of words and returns its report; raises an error if there is no such one."""
        if self.desk is None and words[0] != "variables":
            raise BadText("there is no desk yet")
        match words:
            case ["variables", n]:
                self.desk = Desk(read_integer(n))
                return ""
            case ["add", *literals]:
                return "added\n" if self.desk.add([read_integer(word) for word in literals]) else "same\n"
            case ["remove", index]:
                self.desk.remove(read_integer(index))
                return "removed\n"
            case ["show"]:
                return write_formula(self.desk.formula())
            case ["solve"]:
                return "no model\n" if self.desk.model() is None else "model\n"
            case ["is", kind, k]:
                return decide(self.desk.formula(), (kind, read_integer(k)))[0] + "\n"
            case ["number", kind]:
                return number_report(self.desk.formula(), kind)
            case ["core"]:
                return core_report(self.desk)
        raise BadText("there is no such command")


def run_console(text):
    """The report of the commands of a text; raises BadLine for the first line that is none."""
    console = Console()
    reports = []
    for number, line in enumerate(text.split("\n"), start=1):
        if line != "" and not line.startswith("#"):
            try:
                reports.append(console.executed(line.split(" ")))
            except (BadFormula, BadQuestion, BadText):
                raise BadLine(number) from None
    return "".join(reports)
