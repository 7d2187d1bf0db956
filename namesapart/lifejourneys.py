"""Journeys: trees, with the makings that are done in them one after another."""

from namesapart.errors import CannotMake, InvalidJourney, InvalidNumber, InvalidOrder
from namesapart.makings import first_outermost, making_at, outermost_in
from namesapart.meanings import MOST_MAKINGS
from namesapart.shapes import is_path
from namesapart.trees import is_tree
from namesapart.words import is_between, is_integer


def is_journey(value):
    """Whether a value is a journey."""
    return journey_works(value) is not None


def works_needed(value):
    """The list of the works of a journey, or an error if a value is none."""
    works = journey_works(value)
    if works is None:
        raise InvalidJourney("not a journey")
    return works


def journey_works(value):
    """The list of the works of a journey, or None if a value is none."""
    if not isinstance(value, tuple) or len(value) != 2:
        return None
    tree, order = value
    if not isinstance(order, tuple) or len(order) > MOST_MAKINGS or not is_tree(tree):
        return None
    return works_along((tree, ()), order)


def works_along(work, order):
    """The list of a work and of those behind each making of an order, or None if one of these cannot be done."""
    works = [work]
    for path in order:
        behind = work_behind(works[-1], path)
        if behind is None:
            return None
        works.append(behind)
    return works


def work_behind(work, path):
    """The work behind the making at a path, or None if no outermost use stands there, or would be stopped."""
    if not is_path(work[0], path) or path not in outermost_in(work[0]):
        return None
    result = making_at(work, path)
    return result[1] if result[0] == "made" else None


def is_at_end(work):
    """Whether a journey with this work is at its end."""
    path = first_outermost(work[0])
    return path is None or making_at(work, path)[0] == "stopped"


def are_integers(value):
    """Whether a value is a tuple of integers."""
    return isinstance(value, tuple) and all([is_integer(index) for index in value])


def need_steps_on(value):
    """Raises an error if a value is no order of makings that can be put behind others."""
    if not isinstance(value, tuple) or len(value) > MOST_MAKINGS or not all([are_integers(path) for path in value]):
        raise InvalidOrder("not a tuple of at most so many tuples of integers")


def work_of(journey):
    """The work of a journey."""
    return works_needed(journey)[-1]


def works_of(journey):
    """The list of the works of a journey, the fresh one first."""
    return works_needed(journey)


def next_use(journey):
    """The path of the next use of a journey, or None."""
    return first_outermost(works_needed(journey)[-1][0])


def made_further(journey, order):
    """The journey with further makings behind its own."""
    work = works_needed(journey)[-1]
    need_steps_on(order)
    work_behind_all(work, order)
    return (journey[0], journey[1] + order)


def work_behind_all(work, order):
    """The work behind all makings of an order, or an error if one of these cannot be done."""
    works = works_along(work, order)
    if works is None:
        raise CannotMake("no outermost use that would be made stands at a path")
    return works[-1]


def taken_back(journey, many):
    """The journey without its last makings, so many."""
    works_needed(journey)
    return back_by(journey, many)


def back_by(journey, many):
    """As taken_back."""
    tree, order = journey
    if not is_between(many, 0, len(order)):
        raise InvalidNumber("not an integer from 0 to the number of makings")
    return (tree, order[:len(order) - many])
