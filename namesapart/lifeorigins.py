"""Where the parts of the tree of a journey's work come from.

Origins are kept in the shape of the tree: each part has a pair of its origin and of the tuple of what its parts have.
"""

from namesapart.errors import InvalidNumber
from namesapart.lifejourneys import works_needed
from namesapart.makings import fitting_row, meant_maker
from namesapart.shapes import part_by, parts_in, placed_parts
from namesapart.trees import need_path
from namesapart.words import is_between


def origin_of(journey, part):
    """The origin of a part."""
    works = works_needed(journey)
    need_path(works[-1][0], part)
    return kept_at(origins_along(journey, works)[-1], part)[0]


def trail_of(journey, part):
    """The trail of a part: its origin, and those that lead from there to the first tree."""
    works = works_needed(journey)
    need_path(works[-1][0], part)
    forms = forms_brought(journey, works)
    origins = origins_along(journey, works)
    trail = [kept_at(origins[-1], part)[0]]
    while trail[-1][0] > 0:
        number, path = trail[-1]
        trail.append(kept_at(origins[number - 1], forms[number - 1] + path)[0])
    return tuple(trail)


def parts_from(journey, number):
    """The ascending list of the paths of all parts whose origin has a number."""
    works = works_needed(journey)
    if not is_between(number, 0, len(journey[1])):
        raise InvalidNumber("not an integer from 0 to the number of makings")
    origins = origins_along(journey, works)[-1]
    return [path for path, _ in placed_parts(works[-1][0], True) if kept_at(origins, path)[0][0] == number]


def forms_brought(journey, works):
    """For each making, the path of the form that it brings, in the work ahead of it."""
    found = []
    for work, path in zip(works, journey[1]):
        maker = meant_maker(work, path)
        found.append(maker + (fitting_row(work, path, maker),))
    return found


def origins_along(journey, works):
    """For each work of a journey, the origins of all parts of its tree."""
    found = [first_origins(journey[0], ())]
    for number, form in enumerate(forms_brought(journey, works)):
        path = journey[1][number]
        tree = works[number][0]
        pattern = part_by(tree, form[:-1])[2][form[-1]][0]
        use = kept_at(found[-1], path)
        pieces = {piece[1]: kept for piece, kept in zip(pattern, use[1]) if piece[0] in ("any", "name")}
        brought = brought_origins(part_by(tree, form), (number + 1, ()), pieces)
        found.append(replaced_origins(found[-1], path, brought))
    return found


def first_origins(tree, path):
    """The origins of the parts of a first tree, from the part at a path on."""
    return ((0, path), tuple([first_origins(kid, path + (at,)) for at, kid in enumerate(parts_in(tree))]))


def brought_origins(form, origin, pieces):
    """The origins of a part of a form with this origin, those of the pieces being told by hole."""
    if form[0] == "fill" and form[1] in pieces:
        return pieces[form[1]]
    number, path = origin
    kids = [brought_origins(kid, (number, path + (at,)), pieces) for at, kid in enumerate(parts_in(form))]
    return (origin, tuple(kids))


def kept_at(origins, path):
    """What the part at a path has, and its parts."""
    kept = origins
    for index in path:
        kept = kept[1][index]
    return kept


def replaced_origins(origins, path, brought):
    """The origins with others for the part at a path, and its parts."""
    if not path:
        return brought
    kids = list(origins[1])
    kids[path[0]] = replaced_origins(kids[path[0]], path[1:], brought)
    return (origins[0], tuple(kids))
