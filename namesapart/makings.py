"""Making the uses of makers in a work."""

from namesapart.errors import InvalidOrder, InvalidPath
from namesapart.meanings import MOST_MAKINGS, are_meant_alike, meaning_of, need_work, rows_place
from namesapart.shapes import (
    filled_form,
    fits_within,
    fitted_pieces,
    is_path,
    marked_tree,
    part_by,
    parts_in,
    replaced_part,
    size_of,
)
from namesapart.words import NAME_BOUNDS, is_integer

MOST_ORDER = 60


def need_order(value):
    """Raises an error if a value is no order: a tuple of tuples of integers, paths or not."""
    if not isinstance(value, tuple) or len(value) > MOST_ORDER:
        raise InvalidOrder("not a tuple of at most so many paths")
    if not all([isinstance(path, tuple) for path in value]):
        raise InvalidOrder("not a tuple of tuples")
    if not all([is_integer(index) and index >= 0 for path in value for index in path]):
        raise InvalidOrder("not a tuple of tuples of integers from 0 on")


def need_outermost(tree, path):
    """Raises an error if a value is not the path of an outermost use."""
    if not is_path(tree, path) or path not in outermost_in(tree):
        raise InvalidPath("not the path of an outermost use")


def outermost_in(tree):
    """The ascending list of the paths of the uses of makers that stand in no row and in no other use."""
    found = []
    todo = [((), tree)]
    while todo:
        path, part = todo.pop()
        if part[0] == "make":
            found.append(path)
        else:
            kids = list(enumerate(parts_in(part)))
            outside = kids[-1:] if part[0] == "maker" else kids
            todo.extend([(path + (index,), kid) for index, kid in outside[::-1]])
    return found


def outermost_uses(work):
    """The ascending list of the paths of all outermost uses of a work."""
    need_work(work)
    return outermost_in(work[0])


def row_for(work, path):
    """The index of the row by which the outermost use at a path is made, or None if it would be stopped."""
    need_work(work)
    need_outermost(work[0], path)
    if making_at(work, path)[0] == "stopped":
        return None
    return fitting_row(work, path, meant_maker(work, path))


def made_once(work, path):
    """The work behind the making of the outermost use at a path, or its stop."""
    need_work(work)
    need_outermost(work[0], path)
    return making_at(work, path)


def made_by(work, order):
    """The work with all made, the uses at the paths of the order first, or the first stop."""
    need_work(work)
    need_order(order)
    return all_made(work, order)


def all_made(work, order):
    """As made_by."""
    path, left = use_to_make(work[0], order)
    while path is not None:
        result = making_at(work, path)
        if result[0] == "stopped":
            return result
        work = result[1]
        path, left = use_to_make(work[0], left)
    return ("made", work)


def use_to_make(tree, order):
    """The path of the use that is made next, or None, and what is left of the order behind it."""
    if order:
        uses = outermost_in(tree)
        for at, path in enumerate(order):
            if path in uses:
                return (path, order[at + 1:])
    return (first_outermost(tree), ())


def first_outermost(tree):
    """The path of the first one of the uses of makers that stand in no row, or None."""
    if tree[0] == "make":
        return ()
    if tree[0] == "maker":
        found = first_outermost(tree[3])
        return None if found is None else (len(tree[2]), *found)
    for at, kid in enumerate(parts_in(tree)):
        found = first_outermost(kid)
        if found is not None:
            return (at, *found)
    return None


def fits_at(tree, path, brought, bounds):
    """Whether a tree stays one, marks being within the bounds, if what is brought comes in the place of a use in it.

    All else in it being told like a tree already, and no hole having a pattern around the use, only what
    comes is looked at.
    """
    left = size_of(tree) - size_of(part_by(tree, path))
    return fits_within(brought, bounds, left, len(path) + 1)


def making_at(work, path):
    """As made_once."""
    tree, makings = work
    chosen = row_chosen(work, path)
    if chosen[0] == "stopped":
        return chosen
    _, maker, row = chosen
    made = None
    if len(makings) < MOST_MAKINGS:
        made = brought_into(tree, path, row, (len(makings) + 1,))
    if made is None:
        return ("stopped", path, "great")
    return ("made", (made, makings + (maker,)))


def row_chosen(work, path):
    """The maker that the use at a path means, by its path, and the row that fits, or the stop of the use."""
    maker = meant_maker(work, path)
    if maker is None:
        return ("stopped", path, "maker")
    index = fitting_row(work, path, maker)
    if index is None:
        return ("stopped", path, "row")
    return ("chosen", maker, part_by(work[0], maker)[2][index])


def brought_into(tree, path, row, marks):
    """The tree with the form of a row, with marks, in the place of the use at a path; None if it would be no tree."""
    pattern, form = row
    pieces = fitted_pieces(pattern, part_by(tree, path)[2])
    brought = filled_form(marked_tree(form, marks), pieces)
    if not fits_at(tree, path, brought, NAME_BOUNDS):
        return None
    return replaced_part(tree, path, brought)


def meant_maker(work, path):
    """The path of the maker that the use at a path means, or None if it means none."""
    found = meaning_of(work, path, part_by(work[0], path)[1])
    if found is None or part_by(work[0], found)[0] != "maker":
        return None
    return found


def fitting_row(work, path, maker):
    """The index of the first row of a maker that fits the use at a path, or None."""
    for index, (pattern, _) in enumerate(part_by(work[0], maker)[2]):
        if is_fitting(work, path, maker, pattern):
            return index
    return None


def is_fitting(work, path, maker, pattern):
    """Whether a pattern of a maker fits the use at a path."""
    pieces = part_by(work[0], path)[2]
    if len(pieces) != len(pattern):
        return False
    return all([fits_piece(work, path, maker, piece, tree) for piece, tree in zip(pattern, pieces)])


def fits_piece(work, path, maker, piece, tree):
    """Whether a piece of a pattern of a maker fits a tree of the use at a path."""
    kind = piece[0]
    if kind == "word":
        # A use of a maker binds nothing, so its pieces mean what they would mean in its own place.
        return tree[0] == "use" and are_meant_alike(work, rows_place(maker), piece[1], path, tree[1])
    if kind == "name":
        return tree[0] == "use"
    return kind == "any" or piece == tree
