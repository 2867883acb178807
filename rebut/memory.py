"""Rows of moves: refutations that keep only some clauses in a memory at a time."""

from rebut.clauses import is_clause
from rebut.forms import has_form, is_index, is_tuple
from rebut.resolution import clauses_of, resolvent, right_resolvent
from rebut.rows import all_known, followed
from rebut.trees import needed_tree, tree_rank


def is_kept(formula, memory, value):
    """Whether any value is a clause of a memory."""
    return is_clause(formula[0], value) and value in memory


def put_clause(formula, memory, move):
    """The clause that any value puts into a memory, or None if it is no right move that puts one there."""
    if has_form(move, "load", 2) and is_index(move[1], len(formula[1])):
        return formula[1][move[1]]
    if has_form(move, "infer", 4) and is_kept(formula, memory, move[1]) and is_kept(formula, memory, move[2]):
        return right_resolvent(formula[0], move[1], move[2], move[3])
    return None


def memory_after(formula, memory, move):
    """The ascending list of the clauses behind any value as a move, or None if it is no right move."""
    if has_form(move, "erase", 2) and is_kept(formula, memory, move[1]):
        return [clause for clause in memory if clause != move[1]]
    clause = put_clause(formula, memory, move)
    return None if clause is None else sorted(set([*memory, clause]))


def right_memories(formula, row):
    """The memories after the moves of a tuple before the first one that is not right."""
    return followed(row, lambda known, move: memory_after(formula, known[-1] if known else [], move))


def is_row(formula, value):
    """Whether any value is a row of moves that refutes a formula."""
    if not is_tuple(value) or not value:
        return False
    known = right_memories(formula, value)
    return len(known) == len(value) and () in known[-1]


def memories(formula, row):
    """The list of the memories after each move; raises WrongStep if a move is not right."""
    return all_known(right_memories(formula, row), row)


def row_space(formula, row):
    """The greatest number of clauses that are in the memory at one time."""
    return max([len(memory) for memory in memories(formula, row)], default=0)


def moves_of_tree(formula, tree):
    """The list of moves for a tree all of whose questions are needed, and the clause that they add to the memory."""
    if tree[0] == "leaf":
        return ([("load", tree[1])], formula[1][tree[1]])
    _, v, low, high = tree
    first, low_clause = moves_of_tree(formula, low)
    second, high_clause = moves_of_tree(formula, high)
    # The clause of one tree is kept while the other one is refuted, so that with the smaller rank comes last.
    moves = first + second if tree_rank(low) >= tree_rank(high) else second + first
    moves.extend([("infer", low_clause, high_clause, v), ("erase", low_clause), ("erase", high_clause)])
    return (moves, resolvent(low_clause, high_clause, v))


def row_of_tree(formula, tree):
    """A row of moves that refutes a formula with a space of at most 2 more than the rank of a right tree."""
    return tuple(moves_of_tree(formula, needed_tree(formula, tree)[0])[0])


def move_of_step(clauses, step):
    """The move for a step, where all steps have some clauses."""
    if step[0] == "axiom":
        return ("load", step[1])
    return ("infer", clauses[step[1]], clauses[step[2]], step[3])


def row_of_steps(formula, steps):
    """The row of the moves of the steps of a refutation without steps `weaken`."""
    clauses = clauses_of(formula, steps)
    return tuple([move_of_step(clauses, step) for step in steps])


def steps_of_row(formula, row):
    """The refutation of the moves up to the first one that puts the empty clause into the memory."""
    steps = []
    # For each clause that has been put into the memory, its last step.
    places = {}
    for move in row:
        if () in places:
            break
        if move[0] == "load":
            places[formula[1][move[1]]] = len(steps)
            steps.append(("axiom", move[1]))
        elif move[0] == "infer":
            _, first, second, v = move
            steps.append(("resolve", places[first], places[second], v))
            places[resolvent(first, second, v)] = len(steps) - 1
    return tuple(steps)
