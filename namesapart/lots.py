"""Lotted trees, and what names mean in them by their lots."""

from namesapart.errors import InvalidLotted, InvalidName
from namesapart.meanings import binders_around
from namesapart.shapes import bared_tree, has_shape
from namesapart.trees import need_path
from namesapart.words import LOT_BOUNDS, is_marked


def is_lotted(value):
    """Whether a value is a lotted tree."""
    return has_shape(value, LOT_BOUNDS)


def need_lotted(value):
    """Raises an error if a value is no lotted tree."""
    if not is_lotted(value):
        raise InvalidLotted("not a lotted tree")


def lots_off(lotted):
    """The lotted tree with all lots made empty."""
    need_lotted(lotted)
    return bared_tree(lotted)


def lot_meaning(lotted, path, name):
    """What a name means at a place of a lotted tree."""
    need_lotted(lotted)
    need_path(lotted, path)
    if not is_marked(name, LOT_BOUNDS):
        raise InvalidName("not a pair of a word and a lot")
    return meaning_by_lots(lotted, path, name)


def is_within(lot, other):
    """Whether all marks of a lot are among those of another one."""
    return len(lot) <= len(other) and all([mark in other for mark in lot])


def meaning_by_lots(lotted, path, name):
    """As lot_meaning."""
    return meaning_of_lot(binders_around(lotted, path), name)


def meaning_of_lot(around, name):
    """What a name means, by lots, at a place with these binders around."""
    word, lot = name
    # Inner binders come behind outer ones, so the nearest one of several with the same lot stays.
    heard = {bound[1]: binder for binder, bound in around if bound[0] == word and is_within(bound[1], lot)}
    if not heard:
        return ("nothing",)
    if len(heard) == 1:
        return ("means", list(heard.values())[0])
    # If just one lot is not within another one, all the others are within it.
    tops = [own for own in heard if not any([own != other and is_within(own, other) for other in heard])]
    if len(tops) == 1:
        return ("means", heard[tops[0]])
    return ("doubtful", tuple(sorted([heard[own] for own in tops])))
