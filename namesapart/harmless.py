"""Rows by whose careless making no name is caught, and trees that show the harm of the others."""

from namesapart.careless import caught_in
from namesapart.errors import InvalidRow
from namesapart.makings import making_at
from namesapart.meanings import scoped_parts
from namesapart.shapes import all_names, placed_parts
from namesapart.trees import is_tree, stands_alone
from namesapart.words import first_words


def need_lone_row(value):
    """Raises an error if a value is no row that can stand in a tree as the only one of a maker."""
    if not stands_alone(value):
        raise InvalidRow("not a row that can stand alone in a maker")


def need_simple(value):
    """Raises an error if a value is no simple row."""
    need_lone_row(value)
    if not is_simple_row(value):
        raise InvalidRow("not a simple row")


def is_simple(row):
    """Whether a row is simple."""
    need_lone_row(row)
    return is_simple_row(row)


def is_simple_row(row):
    """As is_simple."""
    pattern, form = row
    if any([piece[0] == "word" for piece in pattern]):
        return False
    if any([part[0] == "maker" for _, part in placed_parts(form, True)]):
        return False
    return not any([marks for _, marks in all_names(form)])


def sites_of(row):
    """The ascending list of the sites of a simple row."""
    need_simple(row)
    return [(path, kind) for path, kind, _, _ in told_sites(row)]


def is_harmless(row):
    """Whether a simple row is harmless."""
    need_simple(row)
    return not told_sites(row)


def told_sites(row):
    """The ascending list of the sites of a simple row, each with its part and with the names around that bind there."""
    found = []
    for path, part, around in scoped_parts(row[1], False):
        bound = [name for _, name in around]
        kind = site_kind(part, bound)
        if kind is not None:
            found.append((path, kind, part, bound))
    return found


def site_kind(part, bound):
    """The kind of the site that a part is, these names binding there, outermost first, or None."""
    if part[0] in ("use", "make"):
        if part[1] not in bound:
            return "free"
        return "between" if handed_within(bound, part[1]) else None
    if part[0] == "fill":
        brought = brought_last(bound)
        if brought is not None and part not in within_last(bound, brought):
            return "fill"
    return None


def within_last(bound, name):
    """Those of the names behind the last time that one is among them."""
    turned = bound[::-1]
    return turned[:turned.index(name)]


def handed_within(bound, name):
    """The list of the fills that bind within the last binder of a name."""
    return [inner for inner in within_last(bound, name) if inner[0] == "fill"]


def brought_last(bound):
    """The last one of the names that is no fill, or None."""
    brought = [name for name in bound if name[0] != "fill"]
    return brought[-1] if brought else None


def harm_tree(row):
    """A harm tree of a simple row of the least size, or None if it has none."""
    need_simple(row)
    told = told_sites(row)
    if not told:
        return None
    near = [site for site in told if hole_to_hand(site) is not None]
    tree = tree_that_hands(row, near[0]) if near else tree_that_binds(row, told[0])
    return tree if shows_harm(row, tree) else None


def hole_to_hand(site):
    """The hole that is handed a name so that harm comes of a site, or None if a binder outside is needed for it."""
    _, kind, part, bound = site
    if kind == "fill":
        return part[1]
    handed = handed_within(bound, part[1]) if kind == "between" else [name for name in bound if name[0] == "fill"]
    return handed[0][1] if handed else None


def tree_that_hands(row, site):
    """The tree of a use of a maker whose hole is handed the name that comes to mean another binder then."""
    _, kind, part, bound = site
    name = brought_last(bound) if kind == "fill" else part[1]
    maker, pieces = plain_pieces(row, {hole_to_hand(site): ("use", name)})
    return ("maker", maker, (row,), ("make", maker, pieces))


def tree_that_binds(row, site):
    """The tree of a use of a maker within a given that binds a free name of its form."""
    maker, pieces = plain_pieces(row, {})
    return ("maker", maker, (row,), ("given", site[2][1], ("make", maker, pieces)))


def plain_pieces(row, told):
    """A name that stands nowhere in a row, and pieces of size 1 that fit its pattern, some being told by hole."""
    pattern, form = row
    used = [name[0] for name in all_names(form)]
    fresh, other = first_words(2, used)
    stands = {"any": ("amount", 0), "name": ("use", (other, ()))}
    pieces = [told.get(piece[1], stands.get(piece[0], piece)) for piece in pattern]
    return ((fresh, ()), tuple(pieces))


def is_harm_tree(row, value):
    """Whether a value is a harm tree of a simple row."""
    need_simple(row)
    return shows_harm(row, value)


def shows_harm(row, value):
    """As is_harm_tree."""
    if not is_tree(value) or any([marks for _, marks in all_names(value)]):
        return False
    makers = [part for _, part in placed_parts(value, True) if part[0] == "maker"]
    uses = [path for path, part in placed_parts(value, False) if part[0] == "make"]
    if len(makers) != 1 or makers[0][2] != (row,) or len(uses) != 1:
        return False
    result = making_at((value, ()), uses[0])
    return result[0] == "made" and len(caught_in(result[1])) > 0
