"""The ends of trees by lots and by makings, and the manners by which both are the same."""

from namesapart.lots import meaning_of_lot
from namesapart.lotworks import all_made_by_lots, begun_by_lots, need_manner
from namesapart.makings import all_made, need_order
from namesapart.meanings import scoped_parts
from namesapart.plain import plain_by, plain_or_wanting
from namesapart.shapes import part_by
from namesapart.trees import need_bare


def lot_end(bare, manner, order):
    """The end of a tree by lots."""
    need_bare(bare)
    need_manner(manner)
    need_order(order)
    return end_by_lots(bare, manner, order)


def making_end(bare, order):
    """The end of a tree by makings."""
    need_bare(bare)
    need_order(order)
    return end_by_makings(bare, order)


def agreeing_manners(bare):
    """The ascending list of all manners by which the end of a tree by lots is that by makings."""
    need_bare(bare)
    told = end_by_makings(bare, ())
    bools = (False, True)
    manners = [(binds, brings, hands) for binds in bools for brings in bools for hands in bools]
    return [manner for manner in manners if end_by_lots(bare, manner, ()) == told]


def end_by_lots(bare, manner, order):
    """As lot_end."""
    result = all_made_by_lots(begun_by_lots(bare, manner), order)
    if result[0] == "stopped":
        return result
    tree = result[1][1]
    meant = {}
    placed = scoped_parts(tree, False)
    for path, part, around in placed:
        if part[0] == "use":
            found = meaning_of_lot(around, part[1])
            if found[0] == "doubtful":
                return ("doubtful", path)
            if found[0] == "means" and part_by(tree, found[1])[0] == "maker":
                return ("wanting", path)
            meant[path] = found[1] if found[0] == "means" else None
    return ("plain", plain_by(tree, placed, meant))


def end_by_makings(bare, order):
    """As making_end."""
    result = all_made((bare, ()), order)
    if result[0] == "stopped":
        return result
    plain = plain_or_wanting(result[1])
    if plain[0] == "wanting":
        return plain
    return ("plain", plain)
