"""What is shown by orders of a goal, and clashes, by which orders show unlike."""

from namesapart.errors import InvalidPlaceOrder
from namesapart.moduleorders import ordered_first, orders_places
from namesapart.modules import need_free_goal, places_from, places_needed_by


def order_shown(shelf, goal, order):
    """What is shown by an order of a goal."""
    modules = need_free_goal(shelf, goal)
    if not orders_places(modules, goal, order):
        raise InvalidPlaceOrder("not an order of the goal")
    rows = {}
    asked = []
    for name, stage in order:
        told = []
        for deed, cell in modules[name][4]:
            row = rows.get((cell, stage), ())
            if deed == "note":
                rows[(cell, stage)] = row + (name,)
            else:
                told.append(row)
        asked.append(((name, stage), tuple(told)))
    return (tuple(sorted(asked)), tuple(sorted(rows.items())))


def clash_in(shelf, goal):
    """A clash of a goal, or None if there is none."""
    modules = need_free_goal(shelf, goal)
    return first_clash(modules, places_from(modules, goal))


def first_clash(modules, places):
    """The least clash of the places of a goal, or None."""
    behind = needed_at_last(modules, places)
    for at, place in enumerate(places):
        for other in places[at + 1:]:
            if place[1] == other[1] and place not in behind[other] and other not in behind[place]:
                if have_clashing_deeds(modules[place[0]], modules[other[0]]):
                    return (place, other)
    return None


def needed_at_last(modules, places):
    """For each place, the list of all places that it needs, at last."""
    found = {}
    for place in ordered_first(modules, places):
        needed = places_needed_by(modules, place)
        found[place] = sorted(set(needed + [inner for nearer in needed for inner in found[nearer]]))
    return found


def have_clashing_deeds(module, other):
    """Whether two modules have deeds with the same cell, a "note" among these."""
    return any([
        cell == other_cell and "note" in (deed, other_deed)
        for deed, cell in module[4]
        for other_deed, other_cell in other[4]
    ])


def unlike_orders(shelf, goal):
    """A pair of orders of a goal that show unlike, or None if there is none."""
    modules = need_free_goal(shelf, goal)
    places = places_from(modules, goal)
    clash = first_clash(modules, places)
    if clash is None:
        return None
    one, other = clash
    behind = needed_at_last(modules, places)
    order = ordered_first(modules, places)
    # All that both need comes ahead of both, so that they can stand beside each other, either one first.
    ahead = tuple([place for place in order if place in behind[one] or place in behind[other]])
    last = tuple([place for place in order if place not in ahead and place not in clash])
    return (ahead + (one, other) + last, ahead + (other, one) + last)
