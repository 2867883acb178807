"""Texts of formulas and of values."""

from rebut.clauses import is_formula
from rebut.errors import BadText

DIGITS = "0123456789"
LETTERS = "abcdefghijklmnopqrstuvwxyz"
WORD_SIGNS = "abcdefghijklmnopqrstuvwxyz0123456789_"
MOST_DIGITS = 30
MOST_BRACKETS = 200
# A number of variables and a literal have at most two digits, since none is beyond 40.
MOST_LITERAL_DIGITS = 2


def read_number(word, most):
    """The integer whose decimal form is a text, or None if there is none of at most `most` digits."""
    digits = word[1:] if word.startswith("-") else word
    if not 1 <= len(digits) <= most:
        return None
    if not all([sign in DIGITS for sign in digits]):
        return None
    if digits[0] == "0" and word != "0":
        return None
    return int(word)


def is_word(text):
    """Whether a text is a word: lower-case letters, digits and underscores, a letter first."""
    return text != "" and text[0] in LETTERS and all([sign in WORD_SIGNS for sign in text])


def clause_line(clause):
    """The line of a clause in the text of a formula."""
    words = [str(literal) for literal in clause]
    return " ".join([*words, "0"]) + "\n"


def write_formula(formula):
    """The text of a formula."""
    n, clauses = formula
    return f"formula {n}\n" + "".join([clause_line(clause) for clause in clauses])


def read_literals(words):
    """The tuple of the numbers of a list of words; raises BadText where a word is none."""
    numbers = [read_number(word, MOST_LITERAL_DIGITS) for word in words]
    if None in numbers:
        raise BadText("a word is not a literal")
    return tuple(numbers)


def read_formula(text):
    """The formula of a text; raises BadText if there is none."""
    lines = text.split("\n")
    if lines.pop() != "" or not lines:
        raise BadText("the last line does not end with a line feed")
    head = lines[0].split(" ")
    if len(head) != 2 or head[0] != "formula":
        raise BadText("the first line is not that of a formula")
    clauses = []
    for line in lines[1:]:
        words = line.split(" ")
        if words.pop() != "0":
            raise BadText("a line does not end with 0")
        clauses.append(read_literals(words))
    formula = (read_literals(head[1:])[0], tuple(clauses))
    if not is_formula(formula):
        raise BadText("the numbers are not those of a formula")
    return formula


def write_value(value):
    """The text of a value that can be read back."""
    if not isinstance(value, tuple):
        return str(value)
    parts = []
    # A plain loop, since values may be nested 200 deep and a comprehension would take a call of its own.
    for item in value:
        parts.append(write_value(item))
    return "(" + " ".join(parts) + ")"


def read_atom(text):
    """The integer or the word of a text; raises BadText if it is neither."""
    if is_word(text):
        return text
    number = read_number(text, MOST_DIGITS)
    if number is None:
        raise BadText("a part of the text is neither an integer nor a word")
    return number


class ValueReader:
    """What has been read of the text of a value, piece by piece between the blanks."""

    def __init__(self):
        # The first row collects the value itself, each other one the items of a bracket that is open.
        self.rows = [[]]

    def take(self, piece):
        """Reads one more piece: some brackets that open, perhaps an integer or a word, some brackets that close."""
        inner = piece.lstrip("(")
        atom = inner.rstrip(")")
        opened = len(piece) - len(inner)
        closed = len(inner) - len(atom)
        if self.rows[0]:
            raise BadText("something follows behind the value")
        if len(self.rows) - 1 + opened > MOST_BRACKETS:
            raise BadText("brackets are nested too deep")
        if closed > len(self.rows) - 1 + opened:
            raise BadText("a bracket is closed that is not open")
        for _ in range(opened):
            self.rows.append([])
        if atom != "":
            self.rows[-1].append(read_atom(atom))
        elif opened == 0 or closed == 0:
            raise BadText("a value is missing")
        for _ in range(closed):
            row = self.rows.pop()
            self.rows[-1].append(tuple(row))

    def whole(self):
        """The value, once all pieces have been read; raises BadText if a bracket is still open."""
        if len(self.rows) > 1:
            raise BadText("a bracket is not closed")
        return self.rows[0][0]


def read_value(text):
    """The value of a text; raises BadText if there is none."""
    reader = ValueReader()
    for piece in text.split(" "):
        reader.take(piece)
    return reader.whole()
