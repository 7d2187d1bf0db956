"""Works, and what names mean in them."""

from namesapart.errors import InvalidName, InvalidWork
from namesapart.shapes import LEAVES, is_path, part_by, parts_in
from namesapart.trees import is_tree, need_path, need_tree
from namesapart.words import NAME_BOUNDS, is_marked

MOST_MAKINGS = 40


def is_work(value):
    """Whether a value is a work."""
    if not isinstance(value, tuple) or len(value) != 2:
        return False
    tree, makings = value
    if not is_tree(tree) or not isinstance(makings, tuple) or len(makings) > MOST_MAKINGS:
        return False
    return all([is_open_maker(tree, path) for path in makings])


def is_open_maker(tree, path):
    """Whether a value is the path of a maker that stands in no row and in no use of a maker."""
    if not is_path(tree, path) or part_by(tree, path)[0] != "maker":
        return False
    part = tree
    for index in path:
        if part[0] == "make" or part[0] == "maker" and index < len(part[2]):
            return False
        part = parts_in(part)[index]
    return True


def need_work(value):
    """Raises an error if a value is no work."""
    if not is_work(value):
        raise InvalidWork("not a work")


def need_name(value):
    """Raises an error if a value is no name."""
    if not is_marked(value, NAME_BOUNDS):
        raise InvalidName("not a name")


def fresh_work(tree):
    """The work of a tree of which nothing has been made."""
    need_tree(tree)
    return (tree, ())


def binds_in(part, index):
    """Whether a part is a binder that binds in its part with this index."""
    if part[0] == "hold":
        return index == 1
    return part[0] in ("given", "maker")


def binders_around(tree, path):
    """The pairs of the path and the name of the binders around a place that bind there, outermost first."""
    found = []
    part = tree
    for at, index in enumerate(path):
        if binds_in(part, index):
            found.append((path[:at], part[1]))
        part = parts_in(part)[index]
    return found


def scoped_parts(tree):
    """For each part outside of rows, in ascending order of the paths, its path, itself, and the binders around it.

    These are told as binders_around tells them.
    """
    found = []
    todo = [((), tree, [])]
    while todo:
        path, part, around = todo.pop()
        found.append((path, part, around))
        kind = part[0]
        if kind == "maker":
            todo.append((path + (len(part[2]),), part[3], around + [(path, part[1])]))
        elif kind == "given":
            todo.append((path + (0,), part[2], around + [(path, part[1])]))
        elif kind == "hold":
            todo.append((path + (1,), part[3], around + [(path, part[1])]))
            todo.append((path + (0,), part[2], around))
        elif kind not in LEAVES:
            kids = [(path + (index,), kid, around) for index, kid in enumerate(parts_in(part))]
            kids.reverse()
            todo.extend(kids)
    return found


def nearest_of(around, name):
    """The path of the nearest one of the binders around a place that binds this very name there, or None."""
    for binder, bound in around[::-1]:
        if bound == name:
            return binder
    return None


def rows_place(maker):
    """A place in the rows of the maker at a path; names mean the same in all of them."""
    return maker + (0,)


def meaning_of(work, path, name):
    """The path of the binder that a name means at a place of a work, or None."""
    return meaning_within(work, binders_around(work[0], path), name)


def meaning_within(work, around, name):
    """The path of the binder that a name means at a place with these binders around, or None."""
    tree, makings = work
    word, marks = name
    found = nearest_of(around, name)
    while found is None and marks and marks[-1] <= len(makings):
        place = rows_place(makings[marks[-1] - 1])
        marks = marks[:-1]
        found = nearest_of(binders_around(tree, place), (word, marks))
    return found


def are_meant_alike(work, path, name, other_path, other_name):
    """Whether two names mean the same at their places."""
    found = meaning_of(work, path, name)
    if found != meaning_of(work, other_path, other_name):
        return False
    return found is not None or name[0] == other_name[0]


def binder_of(work, path, name):
    """The path of the binder that a name means at a place, or None if it means nothing."""
    need_work(work)
    need_path(work[0], path)
    need_name(name)
    return meaning_of(work, path, name)


def mean_same(work, path, name, other_path, other_name):
    """Whether two names mean the same at their places."""
    need_work(work)
    need_path(work[0], path)
    need_name(name)
    need_path(work[0], other_path)
    need_name(other_name)
    return are_meant_alike(work, path, name, other_path, other_name)


def free_words(work):
    """The ascending list of the words of all names of uses, outside of rows, that mean nothing."""
    need_work(work)
    return words_free_in(work)


def words_free_in(work):
    """As free_words."""
    uses = [(part[1], around) for _, part, around in scoped_parts(work[0]) if part[0] in ("use", "make")]
    return sorted({name[0] for name, around in uses if meaning_within(work, around, name) is None})
