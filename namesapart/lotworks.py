"""Works told by lots of marks, and making in them."""

from namesapart.errors import InvalidLotWork, InvalidManner
from namesapart.lots import is_lotted, meaning_by_lots
from namesapart.makings import fits_at, need_order, need_outermost, use_to_make
from namesapart.meanings import MOST_MAKINGS, rows_place
from namesapart.shapes import (
    BINDERS,
    LEAVES,
    all_names,
    filled_form,
    fitted_pieces,
    marked_here,
    marked_tree,
    part_by,
    parts_in,
    placed_parts,
    replaced_part,
    with_parts,
)
from namesapart.trees import need_bare
from namesapart.words import LOT_BOUNDS, is_between

MOST_MARKS = 10 ** 6


def is_manner(value):
    """Whether a value is a manner."""
    return isinstance(value, tuple) and len(value) == 3 and all([isinstance(does, bool) for does in value])


def is_lot_work(value):
    """Whether a value is a lot work."""
    if not isinstance(value, tuple) or len(value) != 4:
        return False
    manner, tree, makings, marks = value
    if not is_manner(manner) or not is_lotted(tree):
        return False
    if not is_between(makings, 0, MOST_MAKINGS) or not is_between(marks, 0, MOST_MARKS):
        return False
    return all([not lot or lot[-1] <= marks for _, lot in all_names(tree)])


def need_lot_work(value):
    """Raises an error if a value is no lot work."""
    if not is_lot_work(value):
        raise InvalidLotWork("not a lot work")


def need_manner(value):
    """Raises an error if a value is no manner."""
    if not is_manner(value):
        raise InvalidManner("not a triple of bools")


def begun_lots(bare, manner):
    """The lot work of a tree whose names are all bare."""
    need_bare(bare)
    need_manner(manner)
    return begun_by_lots(bare, manner)


def begun_by_lots(bare, manner):
    """As begun_lots."""
    if not manner[0]:
        return (manner, bare, 0, 0)
    binders = binders_outside(bare)
    return (manner, bound_tree(bare, binders, 0), 0, len(binders))


def binders_outside(tree):
    """The ascending list of the paths of all binders that stand in no row."""
    return [path for path, part in placed_parts(tree, False) if part[0] in BINDERS]


def bound_tree(tree, binders, marks):
    """The tree behind the marks that binders at these paths put, one by one, so many being put already."""
    return tree_with_marks(tree, (), {path: marks + 1 + at for at, path in enumerate(binders)}, ())


def tree_with_marks(tree, path, numbers, marks):
    """The part at a path with these marks put, and with those of the binders in it."""
    if tree[0] in LEAVES:
        return marked_here(tree, marks)
    own = marks + (numbers[path],) if path in numbers else marks
    kids = []
    for at, kid in enumerate(parts_in(tree)):
        bound = marks if tree[0] == "hold" and at == 0 else own
        kids.append(tree_with_marks(kid, path + (at,), numbers, bound))
    return marked_here(with_parts(tree, kids), own)


def lot_row(lot_work, path):
    """The index of the row by which the outermost use at a path is made, or None if it would be stopped."""
    need_lot_work(lot_work)
    need_outermost(lot_work[1], path)
    if lot_making_at(lot_work, path)[0] == "stopped":
        return None
    tree = lot_work[1]
    return row_by_lots(tree, path, maker_by_lots(tree, path))


def lot_once(lot_work, path):
    """The lot work behind the making of the outermost use at a path, or its stop."""
    need_lot_work(lot_work)
    need_outermost(lot_work[1], path)
    return lot_making_at(lot_work, path)


def made_by_lots(bare, manner, order):
    """The lot work with all made, the uses at the paths of the order first, or the first stop."""
    need_bare(bare)
    need_manner(manner)
    need_order(order)
    return all_made_by_lots(begun_by_lots(bare, manner), order)


def all_made_by_lots(lot_work, order):
    """As made_by_lots, from a lot work on."""
    path, left = use_to_make(lot_work[1], order)
    while path is not None:
        result = lot_making_at(lot_work, path)
        if result[0] == "stopped":
            return result
        lot_work = result[1]
        path, left = use_to_make(lot_work[1], left)
    return ("made", lot_work)


def lot_making_at(lot_work, path):
    """As lot_once."""
    tree = lot_work[1]
    maker = maker_by_lots(tree, path)
    if maker is None:
        return ("stopped", path, "maker")
    index = row_by_lots(tree, path, maker)
    if index is None:
        return ("stopped", path, "row")
    made = brought_by_lots(lot_work, path, part_by(tree, maker)[2][index])
    if made is None:
        return ("stopped", path, "great")
    return ("made", made)


def maker_by_lots(tree, path):
    """The path of the maker that the use at a path means by lots, or None if it means none."""
    found = meaning_by_lots(tree, path, part_by(tree, path)[1])
    if found[0] != "means" or part_by(tree, found[1])[0] != "maker":
        return None
    return found[1]


def row_by_lots(tree, path, maker):
    """The index of the first row of a maker that fits, by lots, the use at a path, or None."""
    pieces = part_by(tree, path)[2]
    for index, (pattern, _) in enumerate(part_by(tree, maker)[2]):
        if len(pattern) == len(pieces):
            fits = [fits_by_lots(tree, path, maker, piece, told) for piece, told in zip(pattern, pieces)]
            if all(fits):
                return index
    return None


def fits_by_lots(tree, path, maker, piece, told):
    """Whether a piece of a pattern of a maker fits, by lots, a tree of the use at a path."""
    kind = piece[0]
    if kind == "word":
        return told[0] == "use" and mean_same_by_lots(tree, rows_place(maker), piece[1], path, told[1])
    if kind == "name":
        return told[0] == "use"
    return kind == "any" or piece == told


def mean_same_by_lots(tree, path, name, other_path, other_name):
    """Whether two names mean the same binder, or have the same word and mean nothing; never if in doubt."""
    found = meaning_by_lots(tree, path, name)
    if found[0] == "doubtful" or found != meaning_by_lots(tree, other_path, other_name):
        return False
    return name[0] == other_name[0]


def brought_by_lots(lot_work, path, row):
    """What comes of the use at a path by a row that fits it, or None if it would be no lot work."""
    (binds, brings, hands), tree, makings, marks = lot_work
    if makings >= MOST_MAKINGS:
        return None
    pattern, form = row
    pieces = part_by(tree, path)[2]
    binders = binders_outside(form)
    if brings:
        marks = marks + 1
        form = marked_tree(form, (marks,))
    if hands:
        marks = marks + 1
        pieces = tuple([marked_tree(piece, (marks,)) for piece in pieces])
    brought = filled_form(form, fitted_pieces(pattern, pieces))
    # A great tree is left here, as marks would be put on each of its names alone.
    if not fits_at(tree, path, brought, LOT_BOUNDS):
        return None
    if binds:
        brought = bound_tree(brought, binders, marks)
        marks = marks + len(binders)
    # The marks put ascend, and none is greater than the last one.
    if marks > MOST_MARKS or any([len(lot) > LOT_BOUNDS[0] for _, lot in all_names(brought)]):
        return None
    return (lot_work[0], replaced_part(tree, path, brought), makings + 1, marks)
