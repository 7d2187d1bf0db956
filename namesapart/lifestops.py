"""Stops, and journeys that are led on up to one."""

from namesapart.errors import InvalidNumber, InvalidStops
from namesapart.lifejourneys import is_at_end, works_needed
from namesapart.makings import first_outermost, fitting_row, making_at, meant_maker
from namesapart.meanings import MOST_MAKINGS
from namesapart.shapes import MOST_ROWS, MOST_SIZE, part_by, size_of
from namesapart.words import is_ascending, is_between, is_word

MOST_STOPS = 12


def is_stop(value):
    """Whether a value is a stop."""
    if not isinstance(value, tuple) or not value:
        return False
    if len(value) == 1:
        return value[0] == "end"
    if len(value) != 2:
        return False
    kind, told = value
    if kind == "maker":
        return is_word(told)
    if kind == "row":
        return is_between(told, 0, MOST_ROWS - 1)
    if kind == "number":
        return is_between(told, 0, MOST_MAKINGS)
    return kind == "size" and is_between(told, 1, MOST_SIZE)


def need_stops(value):
    """Raises an error if a value is no stops."""
    if not isinstance(value, tuple) or len(value) > MOST_STOPS or not all([is_stop(stop) for stop in value]):
        raise InvalidStops("not a tuple of at most so many stops")
    if not is_ascending(value):
        raise InvalidStops("stops that do not ascend")


def need_makings(value):
    """Raises an error if a value is no number of makings."""
    if not is_between(value, 0, MOST_MAKINGS):
        raise InvalidNumber("not an integer from 0 to the most makings")


def stops_at(journey, stops):
    """The tuple of the stops that hold at a journey."""
    work = works_needed(journey)[-1]
    need_stops(stops)
    return tuple([stop for stop in stops if holds_at(work, stop)])


def holds_at(work, stop):
    """Whether a stop holds at a journey with this work."""
    kind = stop[0]
    if kind == "end":
        return is_at_end(work)
    if kind == "number":
        return len(work[1]) == stop[1]
    if kind == "size":
        return size_of(work[0]) >= stop[1]
    path = first_outermost(work[0])
    if path is None:
        return False
    if kind == "maker":
        return part_by(work[0], path)[1][0] == stop[1]
    if making_at(work, path)[0] == "stopped":
        return False
    return fitting_row(work, path, meant_maker(work, path)) == stop[1]


def led_to_stop(journey, stops, most):
    """The journey led on up to a stop behind a making, to its end, or so many makings further."""
    work = works_needed(journey)[-1]
    need_stops(stops)
    need_makings(most)
    return led_within(journey, work, stops, most)


def led_within(journey, work, stops, most):
    """As led_to_stop, of a journey with this work."""
    tree, order = journey
    for _ in range(most):
        if is_at_end(work):
            break
        path = first_outermost(work[0])
        work = making_at(work, path)[1]
        order = order + (path,)
        if any([holds_at(work, stop) for stop in stops]):
            break
    return (tree, order)
