"""The plain meaning of clients, told without makings.

While a form is brought, its own names have the number of the bringing as their mark, so that they are unlike all
others; the names of the client are bare.
"""

from namesapart.errors import TooMany
from namesapart.library import library_rows, need_client, need_lot
from namesapart.meanings import MOST_MAKINGS, words_free_in
from namesapart.plain import plain_or_wanting
from namesapart.shapes import (
    BINDERS,
    depth_of,
    filled_form,
    fitted_pieces,
    marked_tree,
    parts_in,
    placed_parts,
    size_of,
    with_parts,
)

MOST_CLIENT_SIZE = 100
MOST_CLIENT_DEPTH = 6
MOST_CLIENT_USES = 20


def rows_of_lot(lot):
    """The rows of the makers of a lot, by word."""
    return {word: library_rows(word) for word in lot}


class Meaner:
    """The rows of a lot, by word, what has been brought of them so far, and the first stop."""

    def __init__(self, lot):
        self.rows = rows_of_lot(lot)
        self.brought = []
        self.stop = None


def need_small(client):
    """Raises an error if a client is beyond one of the limits."""
    if size_of(client) > MOST_CLIENT_SIZE:
        raise TooMany(MOST_CLIENT_SIZE)
    if depth_of(client) > MOST_CLIENT_DEPTH:
        raise TooMany(MOST_CLIENT_DEPTH)
    if len([path for path, part in placed_parts(client, False) if part[0] == "make"]) > MOST_CLIENT_USES:
        raise TooMany(MOST_CLIENT_USES)


def meant_plainly(lot, client):
    """The plain tree of the plain meaning of a client, its first stop, or that it is wanting."""
    need_lot(lot)
    need_client(client)
    need_small(client)
    return meaning_told(lot, client)


def makings_told(lot, client):
    """The list of the words and the indices of rows of all that is made, up to the first stop."""
    need_lot(lot)
    need_client(client)
    need_small(client)
    meaner = Meaner(lot)
    meant_part(meaner, client, ())
    return meaner.brought


def meaning_told(lot, client):
    """As meant_plainly."""
    meaner = Meaner(lot)
    tree = meant_part(meaner, client, ())
    if meaner.stop is not None:
        return ("stopped", meaner.stop)
    work = (tree, ())
    if any([word in lot for word in words_free_in(work)]):
        return ("wanting",)
    return ("plain", plain_or_wanting(work))


def meant_part(meaner, part, bound):
    """The plain meaning of a part around which binders of the client bind these words."""
    kind = part[0]
    if meaner.stop is not None or kind in ("amount", "use"):
        return part
    if kind == "make":
        return meant_use(meaner, part, bound)
    kids = parts_in(part)
    inner = bound
    if kind in BINDERS and not part[1][1]:
        inner = bound + (part[1][0],)
    meant = [meant_part(meaner, kid, bound) for kid in kids[:-1]]
    meant.append(meant_part(meaner, kids[-1], inner))
    return with_parts(part, meant)


def meant_use(meaner, part, bound):
    """The plain meaning of a use of a maker."""
    _, (word, marks), pieces = part
    if not marks and (word not in meaner.rows or word in bound):
        meaner.stop = "maker"
        return part
    index = index_fitting(meaner.rows[word], pieces, bound)
    if index is None:
        meaner.stop = "row"
        return part
    if len(meaner.brought) == MOST_MAKINGS:
        meaner.stop = "great"
        return part
    meaner.brought.append((word, index))
    pattern, form = meaner.rows[word][index]
    own = marked_tree(form, (len(meaner.brought),))
    return meant_part(meaner, filled_form(own, fitted_pieces(pattern, pieces)), bound)


def index_fitting(rows, pieces, bound):
    """The index of the first row that fits pieces around which binders of the client bind these words, or None."""
    for index, (pattern, _) in enumerate(rows):
        if len(pattern) == len(pieces) and all([fits(piece, tree, bound) for piece, tree in zip(pattern, pieces)]):
            return index
    return None


def fits(piece, tree, bound):
    """Whether a piece of a pattern of the library fits a piece of a use."""
    if piece[0] == "any":
        return True
    if tree[0] != "use":
        return False
    if piece[0] == "name":
        return True
    word, marks = tree[1]
    # A word with a mark was brought by a form, where nothing of the client's binds it.
    return word == piece[1][0] and (len(marks) > 0 or word not in bound)
