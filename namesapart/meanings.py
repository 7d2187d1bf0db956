"""Works, and what names mean in them."""

from namesapart.errors import InvalidName, InvalidWork
from namesapart.shapes import BINDERS, LEAVES, is_path, part_by, parts_in
from namesapart.trees import is_tree, need_path, need_tree
from namesapart.words import NAME_BOUNDS, is_marked

MOST_MAKINGS = 40


def is_work(value):
    """Whether a value is a work."""
    if not isinstance(value, tuple) or len(value) != 2:
        return False
    tree, makings = value
    if not is_tree(tree) or not isinstance(makings, tuple) or len(makings) > MOST_MAKINGS:
        return False
    return all([is_open_maker(tree, path) for path in makings])


def is_open_maker(tree, path):
    """Whether a value is the path of a maker that stands in no row and in no use of a maker."""
    if not is_path(tree, path) or part_by(tree, path)[0] != "maker":
        return False
    part = tree
    for index in path:
        if part[0] == "make" or part[0] == "maker" and index < len(part[2]):
            return False
        part = parts_in(part)[index]
    return True


def need_work(value):
    """Raises an error if a value is no work."""
    if not is_work(value):
        raise InvalidWork("not a work")


def need_name(value):
    """Raises an error if a value is no name."""
    if not is_marked(value, NAME_BOUNDS):
        raise InvalidName("not a name")


def fresh_work(tree):
    """The work of a tree of which nothing has been made."""
    need_tree(tree)
    return (tree, ())


def binds_in(part, index):
    """Whether a part is a binder that binds in its part with this index."""
    if part[0] == "hold":
        return index == 1
    return part[0] in ("given", "maker")


def binders_around(tree, path):
    """The pairs of the path and the name of the binders around a place that bind there, outermost first."""
    found = []
    part = tree
    for at, index in enumerate(path):
        if binds_in(part, index):
            found.append((path[:at], part[1]))
        part = parts_in(part)[index]
    return found


def scoped_parts(tree, into_rows):
    """For each part, in ascending order of the paths, its path, itself, and the binders around it.

    These are told as binders_around tells them; parts in rows come only if they are asked for.
    """
    found = []
    todo = [((), tree, [])]
    while todo:
        place = todo.pop()
        found.append(place)
        if place[1][0] not in LEAVES:
            todo.extend(scoped_kids(place, into_rows)[::-1])
    return found


def scoped_kids(place, into_rows):
    """As scoped_parts, of the parts that stand directly in one that is told so."""
    path, part, around = place
    if part[0] not in BINDERS:
        return [(path + (index,), kid, around) for index, kid in enumerate(parts_in(part))]
    inner = around + [(path, part[1])]
    if part[0] == "maker" and not into_rows:
        return [(path + (len(part[2]),), part[3], inner)]
    kids = [(path + (index,), kid, inner) for index, kid in enumerate(parts_in(part))]
    if part[0] == "hold":
        kids[0] = (path + (0,), part[2], around)
    return kids


def nearest_of(around, name):
    """The path of the nearest one of the binders around a place that binds this very name there, or None."""
    for binder, bound in around[::-1]:
        if bound == name:
            return binder
    return None


def rows_place(maker):
    """A place in the rows of the maker at a path; names mean the same in all of them."""
    return maker + (0,)


def meaning_of(work, path, name):
    """The path of the binder that a name means at a place of a work, or None."""
    return meaning_within(work, binders_around(work[0], path), name)


def meaning_within(work, around, name):
    """The path of the binder that a name means at a place with these binders around, or None."""
    tree, makings = work
    word, marks = name
    found = nearest_of(around, name)
    while found is None and marks and marks[-1] <= len(makings):
        place = rows_place(makings[marks[-1] - 1])
        marks = marks[:-1]
        found = nearest_of(binders_around(tree, place), (word, marks))
    return found


def are_meant_alike(work, path, name, other_path, other_name):
    """Whether two names mean the same at their places."""
    found = meaning_of(work, path, name)
    if found != meaning_of(work, other_path, other_name):
        return False
    return found is not None or name[0] == other_name[0]


def binder_of(work, path, name):
    """The path of the binder that a name means at a place, or None if it means nothing."""
    need_work(work)
    need_path(work[0], path)
    need_name(name)
    return meaning_of(work, path, name)


def mean_same(work, path, name, other_path, other_name):
    """Whether two names mean the same at their places."""
    need_work(work)
    need_path(work[0], path)
    need_name(name)
    need_path(work[0], other_path)
    need_name(other_name)
    return are_meant_alike(work, path, name, other_path, other_name)


def free_words(work):
    """The ascending list of the words of all names of uses, outside of rows, that mean nothing."""
    need_work(work)
    return words_free_in(work)


def words_free_in(work):
    """As free_words."""
    uses = [(part[1], around) for _, part, around in scoped_parts(work[0], False) if part[0] in ("use", "make")]
    return sorted({name[0] for name, around in uses if meaning_within(work, around, name) is None})
