"""The plain meaning of clients, told without makings.

While a form is brought, its own names have the number of the bringing as their mark, so that they are unlike all
others; the names of the client are bare.
"""

from namesapart.errors import TooMany
from namesapart.library import need_client, need_lot, rows_of_lot
from namesapart.meanings import MOST_MAKINGS
from namesapart.plain import plain_or_wanting
from namesapart.shapes import (
    BINDERS,
    filled_form,
    fitted_pieces,
    marked_tree,
    parts_in,
    placed_parts,
    with_parts,
)

MOST_CLIENT_SIZE = 100
MOST_CLIENT_DEPTH = 6
MOST_CLIENT_USES = 20


class Meaner:
    """The rows of a lot, by word, what has been brought of them so far, the free words met, and the first stop."""

    def __init__(self, lot):
        self.rows = rows_of_lot(lot)
        self.brought = []
        self.free = {}
        self.stop = None


def need_small(client):
    """Raises an error if a client is beyond one of the limits."""
    # No maker stands in a client, so its size is how many parts it has.
    placed = placed_parts(client, False)
    if len(placed) > MOST_CLIENT_SIZE:
        raise TooMany(MOST_CLIENT_SIZE)
    if max([len(path) for path, _ in placed]) + 1 > MOST_CLIENT_DEPTH:
        raise TooMany(MOST_CLIENT_DEPTH)
    if len([path for path, part in placed if part[0] == "make"]) > MOST_CLIENT_USES:
        raise TooMany(MOST_CLIENT_USES)


def meant_plainly(lot, client):
    """The plain tree of the plain meaning of a client, its first stop, or that it is wanting."""
    need_lot(lot)
    need_client(client)
    need_small(client)
    return meaning_told(lot, client)[0]


def makings_told(lot, client):
    """The list of the words and the indices of rows of all that is made, up to the first stop."""
    need_lot(lot)
    need_client(client)
    need_small(client)
    meaner = Meaner(lot)
    meant_part(meaner, client, ())
    return meaner.brought


def meaning_told(lot, client):
    """The pair of what meant_plainly returns, and of the ascending list of the words free in the plain meaning."""
    meaner = Meaner(lot)
    tree = meant_part(meaner, client, ())
    free = sorted(meaner.free)
    if meaner.stop is not None:
        return (("stopped", meaner.stop), free)
    if any([word in lot for word in free]):
        return (("wanting",), free)
    return (("plain", plain_or_wanting((tree, ()))), free)


def meant_part(meaner, part, bound):
    """The plain meaning of a part around which binders of the client bind these words."""
    kind = part[0]
    if meaner.stop is not None or kind == "amount":
        return part
    if kind == "use":
        word, marks = part[1]
        # Names with marks were brought by a form, which binds them all.
        if not marks and word not in bound:
            meaner.free[word] = True
        return part
    if kind == "make":
        return meant_use(meaner, part, bound)
    kids = parts_in(part)
    inner = bound
    if kind in BINDERS and not part[1][1]:
        inner = bound + (part[1][0],)
    meant = [meant_part(meaner, kid, bound) for kid in kids[:-1]]
    meant.append(meant_part(meaner, kids[-1], inner))
    return with_parts(part, meant)


def meant_use(meaner, part, bound):
    """The plain meaning of a use of a maker."""
    _, (word, marks), pieces = part
    if not marks and (word not in meaner.rows or word in bound):
        meaner.stop = "maker"
        return part
    index = index_fitting(meaner.rows[word], pieces, bound)
    if index is None:
        meaner.stop = "row"
        return part
    if len(meaner.brought) == MOST_MAKINGS:
        meaner.stop = "great"
        return part
    meaner.brought.append((word, index))
    pattern, form = meaner.rows[word][index]
    own = marked_tree(form, (len(meaner.brought),))
    return meant_part(meaner, filled_form(own, fitted_pieces(pattern, pieces)), bound)


def index_fitting(rows, pieces, bound):
    """The index of the first row that fits pieces around which binders of the client bind these words, or None."""
    for index, (pattern, _) in enumerate(rows):
        if len(pattern) == len(pieces) and all([fits(piece, tree, bound) for piece, tree in zip(pattern, pieces)]):
            return index
    return None


def fits(piece, tree, bound):
    """Whether a piece of a pattern of the library fits a piece of a use."""
    if piece[0] == "any":
        return True
    if tree[0] != "use":
        return False
    if piece[0] == "name":
        return True
    word, marks = tree[1]
    # A word with a mark was brought by a form, where nothing of the client's binds it.
    return word == piece[1][0] and (len(marks) > 0 or word not in bound)
