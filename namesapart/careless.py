"""Careless making, and the names that are caught by it."""

from namesapart.makings import brought_into, first_outermost, row_chosen
from namesapart.meanings import MOST_MAKINGS, meaning_within, need_work, scoped_parts
from namesapart.running import need_steps, program_of, run_within
from namesapart.shapes import bared_tree
from namesapart.trees import need_bare


def bare_tree(work):
    """The tree of a work with all names bare."""
    need_work(work)
    return bared_tree(work[0])


def caught_names(work):
    """The ascending list of the triples of a path and of the two binders of all caught names of a work."""
    need_work(work)
    return caught_in(work)


def caught_in(work):
    """As caught_names."""
    told = [(path, around, name) for path, name, around in names_outside(work[0])]
    meant = [(path, meaning_within(work, around, name), bare_meaning(around, name)) for path, around, name in told]
    # A tuple around each path, so that an empty one, for none, stands ahead of all.
    found = sorted({(path, wrapped(one), wrapped(other)) for path, one, other in meant if one != other})
    return [(path, unwrapped(one), unwrapped(other)) for path, one, other in found]


def wrapped(path):
    """The tuple that holds a path, or nothing for None."""
    return () if path is None else (path,)


def unwrapped(held):
    """The path that a tuple holds, or None."""
    return held[0] if held else None


def names_outside(tree):
    """The triples of a path, a name and the binders around it, of the names outside of rows that mean something."""
    found = []
    for path, part, around in scoped_parts(tree, False):
        if part[0] in ("use", "make"):
            found.append((path, part[1], around))
        if part[0] == "maker":
            inner = around + [(path, part[1])]
            found.extend([(path + (index,), name, inner) for index, _, name in pattern_names(part)])
    return found


def pattern_names(maker):
    """The triples of the index of a row, of that of a piece, and of its name, of a maker's patterns."""
    return [
        (index, at, piece[1])
        for index, (pattern, _) in enumerate(maker[2])
        for at, piece in enumerate(pattern)
        if piece[0] == "word"
    ]


def bare_meaning(around, name):
    """The path of the binder that a name means if all names are bare, or None."""
    for binder, bound in around[::-1]:
        if bound[0] == name[0]:
            return binder
    return None


def made_carelessly(tree):
    """The tree with all made carelessly, or the first stop."""
    need_bare(tree)
    return all_made_carelessly(tree)


def all_made_carelessly(tree):
    """As made_carelessly."""
    many = 0
    path = first_outermost(tree)
    while path is not None:
        chosen = row_chosen((tree, ()), path)
        if chosen[0] == "stopped":
            return chosen
        made = brought_into(tree, path, chosen[2], ()) if many < MOST_MAKINGS else None
        if made is None:
            return ("stopped", path, "great")
        tree = made
        many = many + 1
        path = first_outermost(tree)
    return ("made", tree)


def shown_carelessly(tree, most):
    """What a tree shows if it is made carelessly."""
    need_bare(tree)
    need_steps(most)
    result = all_made_carelessly(tree)
    if result[0] == "stopped":
        return result
    told = program_of(("made", (result[1], ())))
    if told[0] != "program":
        return told
    return run_within(told[1], most)[0]
