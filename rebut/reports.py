"""Reports: derivations as texts that people can read."""

from rebut.clauses import is_clause
from rebut.errors import BadLine
from rebut.resolution import clause_of_step, clauses_of, pruned, step_depth
from rebut.texts import read_number

MOST_DIGITS = 9
# What is read of a line that has not the form of a line: no index, the empty clause, and no step.
NOTHING = (None, (), None)


def literal_text(literal):
    """The text of a literal in a report."""
    return f"x{literal}" if literal > 0 else f"~x{-literal}"


def clause_text(clause):
    """The text of a clause in a report."""
    return " | ".join([literal_text(literal) for literal in clause]) if clause else "false"


def step_text(step):
    """The words of a step in a report."""
    if step[0] == "axiom":
        return f"clause {step[1]}"
    if step[0] == "weaken":
        return f"from {step[1]}"
    return f"from {step[1]} and {step[2]} by {step[3]}"


def write_report(formula, steps):
    """The report of a derivation."""
    lines = [f"{at}: {clause_text(clause)} {step_text(step)}\n"
             for at, (step, clause) in enumerate(zip(steps, clauses_of(formula, steps)))]
    return "".join(lines)


def read_count(word):
    """The number, which is not negative and has not too many digits, of a word, or None."""
    number = read_number(word, MOST_DIGITS)
    return None if number is None or number < 0 else number


def read_literal(word):
    """The number of a literal, perhaps 0, whose text a word is, or None."""
    name = word.removeprefix("~")
    number = read_count(name[1:]) if name.startswith("x") else None
    if number is None:
        return None
    return number if name == word else -number


def read_clause(n, words):
    """The clause of the variables from 1 to n whose text some words are, or None."""
    if words == ["false"]:
        return ()
    if len(words) % 2 == 0 or words[1::2] != ["|"] * (len(words) // 2):
        return None
    clause = tuple([read_literal(word) for word in words[::2]])
    return clause if is_clause(n, clause) else None


def read_step(words, clause):
    """The step of a clause whose words are given, or None; whether it is right is not asked."""
    marks = words[::2]
    counts = [read_count(word) for word in words[1::2]]
    if None in counts or len(counts) < len(marks):
        return None
    if marks == ["clause"]:
        return ("axiom", *counts)
    if marks == ["from"]:
        return ("weaken", *counts, clause)
    return ("resolve", *counts) if marks == ["from", "and", "by"] else None


def read_line(n, line):
    """The index, the clause and the step of a line; NOTHING if it has not the form of a line."""
    words = line.split(" ")
    starts = [at for at, word in enumerate(words) if word in ("clause", "from")]
    if not starts or not words[0].endswith(":"):
        return NOTHING
    index = read_count(words[0].removesuffix(":"))
    clause = read_clause(n, words[1:starts[0]])
    step = read_step(words[starts[0]:], clause)
    return NOTHING if index is None or clause is None or step is None else (index, clause, step)


def read_lines(text, formula):
    """The list of the steps of the lines of a text, with None for each line that is not right."""
    lines = text.split("\n")
    rest = lines.pop()
    steps = []
    # What the lines say, whether they are right or not.
    said = []
    for place, line in enumerate(lines):
        index, clause, step = read_line(formula[0], line)
        is_right = index == place and clause_of_step(formula, said, step) == clause
        steps.append(step if is_right else None)
        said.append(clause)
    return steps if rest == "" else [*steps, None]


def read_report(text, formula):
    """The derivation with a report; raises BadLine for the first line that is not right."""
    steps = read_lines(text, formula)
    if not steps:
        raise BadLine(1)
    if None in steps:
        raise BadLine(steps.index(None) + 1)
    return tuple(steps)


def statistics(formula, steps):
    """The dictionary of the numbers of a derivation."""
    clauses = clauses_of(formula, steps)
    words = [step[0] for step in steps]
    return {"steps": len(steps), "axioms": words.count("axiom"), "resolvents": words.count("resolve"),
            "weakenings": words.count("weaken"), "width": max([len(clause) for clause in clauses]),
            "depth": step_depth(steps), "used": len(pruned(steps)), "different": len(set(clauses)),
            "variables": sorted({step[3] for step in steps if step[0] == "resolve"})}


def report_faults(text, formula):
    """The ascending list of the numbers of all lines of a text that are not right."""
    return [at for at, step in enumerate(read_lines(text, formula), start=1) if step is None]
