"""The orders in which the places of a goal are put in place."""

from namesapart.errors import TooMany
from namesapart.modules import need_free_goal, places_from, places_needed_by
from namesapart.words import is_integer

MOST_PLACES = 6


def places_needed(shelf, goal):
    """The ascending list of all places that a goal puts in place."""
    modules = need_free_goal(shelf, goal)
    return places_from(modules, goal)


def first_order(shelf, goal):
    """The order that takes, each time, the least place whose needs are all in place."""
    modules = need_free_goal(shelf, goal)
    return ordered_first(modules, places_from(modules, goal))


def ordered_first(modules, places):
    """The first order of an ascending list of places that has all that they need."""
    order = []
    while len(order) < len(places):
        order.append(ready_places(modules, places, order)[0])
    return tuple(order)


def ready_places(modules, places, order):
    """The ascending list of the places that are not in an order yet, but all whose needs are."""
    left = [place for place in places if place not in order]
    return [place for place in left if all([needed in order for needed in places_needed_by(modules, place)])]


def is_place_order(shelf, goal, value):
    """Whether a value is an order of a goal."""
    modules = need_free_goal(shelf, goal)
    return orders_places(modules, goal, value)


def orders_places(modules, goal, value):
    """As is_place_order."""
    if not isinstance(value, tuple) or not all([is_told_place(place) for place in value]):
        return False
    if sorted(value) != places_from(modules, goal):
        return False
    for at, place in enumerate(value):
        ahead = value[:at]
        if not all([needed in ahead for needed in places_needed_by(modules, place)]):
            return False
    return True


def is_told_place(value):
    """Whether a value is told like a place."""
    return isinstance(value, tuple) and len(value) == 2 and isinstance(value[0], str) and is_integer(value[1])


def place_orders(shelf, goal):
    """The ascending list of all orders of a goal."""
    modules = need_free_goal(shelf, goal)
    places = places_from(modules, goal)
    if len(places) > MOST_PLACES:
        raise TooMany(MOST_PLACES)
    orders = [()]
    for _ in places:
        orders = [order + (place,) for order in orders for place in ready_places(modules, places, order)]
    return orders
