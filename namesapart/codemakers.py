"""Making by tables of staged programs, which make codes of codes."""

from namesapart.errors import InvalidTable, InvalidTree
from namesapart.meanings import MOST_MAKINGS
from namesapart.running import need_steps
from namesapart.shapes import (
    MOST_DEPTH,
    MOST_SIZE,
    all_names,
    part_by,
    parts_in,
    placed_parts,
    replaced_part,
    with_parts,
)
from namesapart.stageruns import Worker, all_done, end_of, keeps_bounds, with_plain_words
from namesapart.stagetrees import FOUR_FORMS, core_tree, is_staged
from namesapart.trees import is_tree
from namesapart.words import is_ascending, is_word

MOST_PAIRS = 6


def is_table(value):
    """Whether a value is a table."""
    if not isinstance(value, tuple) or len(value) > MOST_PAIRS:
        return False
    if not all([isinstance(pair, tuple) and len(pair) == 2 and is_word(pair[0]) for pair in value]):
        return False
    return is_ascending([word for word, _ in value]) and all([is_staged(program) for _, program in value])


def need_table(value):
    """Raises an error if a value is no table."""
    if not is_table(value):
        raise InvalidTable("not a table")


def need_makerless(value):
    """Raises an error if a value is no tree without makers and marks."""
    if not is_tree(value) or any([part[0] == "maker" for _, part in placed_parts(value, True)]):
        raise InvalidTree("not a tree without makers")
    if any([marks for _, marks in all_names(value)]):
        raise InvalidTree("a tree with marks")


def made_with(tree, table, most):
    """The plain tree of a tree whose uses of makers are made by a table, or the first stop."""
    need_makerless(tree)
    need_table(table)
    need_steps(most)
    programs = dict(table)
    whole = numbered_tree(tree)
    many = 0
    number = 0
    path = first_innermost(whole)
    while path is not None:
        _, (word, _), pieces = part_by(whole, path)
        if word not in programs:
            return ("stopped", word, "maker")
        if many >= MOST_MAKINGS:
            return ("stopped", word, "great")
        told, number = code_for(programs[word], pieces, most, number)
        if told[0] != "code":
            return ("stopped", word, told)
        if any([part[0] in FOUR_FORMS for _, part in placed_parts(told[1], False)]):
            return ("stopped", word, "form")
        whole = replaced_part(whole, path, told[1])
        if not keeps_bounds(whole, MOST_SIZE, MOST_DEPTH):
            return ("stopped", word, "great")
        many = many + 1
        path = first_innermost(whole)
    return ("made", core_tree(with_plain_words(whole)))


def numbered_tree(tree):
    """The tree with pairs of a word and of 0 in the places of its names."""
    whole = with_parts(tree, [numbered_tree(kid) for kid in parts_in(tree)])
    if whole[0] in ("use", "given", "hold", "make"):
        return (whole[0], (whole[1][0], 0), *whole[2:])
    return whole


def first_innermost(tree):
    """The path of the first one of the uses of makers in which no other one stands, or None."""
    for at, kid in enumerate(parts_in(tree)):
        found = first_innermost(kid)
        if found is not None:
            return (at, *found)
    return () if tree[0] == "make" else None


def code_for(program, pieces, most, number):
    """The pair of the code to which a program comes for pieces, or of its end, and of the last number given."""
    worker = Worker(most, number)
    worker.todo.append(("work", program, {}))
    stop = all_done(worker)
    for piece in pieces:
        if stop is None:
            worker.told.append(("code", piece))
            worker.todo.append(("apply",))
            stop = all_done(worker)
    if stop is None:
        value = worker.told[0]
        stop = value if value[0] == "code" else end_of(value)
    return (stop, worker.number)
