"""Trees, their sizes, parts, paths and words."""

from namesapart.errors import InvalidPath, InvalidTree
from namesapart.shapes import all_names, depth_of, has_shape, is_path, part_by, parts_in, placed_parts, size_of
from namesapart.words import NAME_BOUNDS


def is_tree(value):
    """Whether a value is a tree without fills but those of rows."""
    return has_shape(value, NAME_BOUNDS)


def is_plain(value):
    """Whether a value is such a tree without makers, uses of makers and marks."""
    if not is_tree(value):
        return False
    found = placed_parts(value, True)
    if any([part[0] in ("maker", "make") for _, part in found]):
        return False
    return not any([name[1] for name in all_names(value)])


def need_tree(value):
    """Raises an error if a value is no tree without fills but those of rows."""
    if not is_tree(value):
        raise InvalidTree("not a tree without fills but those of rows")


def need_plain(value):
    """Raises an error if a value is no plain tree."""
    if not is_plain(value):
        raise InvalidTree("not a tree without makers, uses of makers and marks")


def need_bare(value):
    """Raises an error if a value is no tree whose names are all bare."""
    need_tree(value)
    if any([marks for _, marks in all_names(value)]):
        raise InvalidTree("a tree with a name that is not bare")


def stands_alone(row):
    """Whether a value is a row that can stand in a tree as the only one of a maker."""
    return is_tree(("maker", ("m", ()), (row,), ("amount", 0)))


def need_path(tree, value):
    """Raises an error if a value is no path of a tree."""
    if not is_path(tree, value):
        raise InvalidPath("not a path of the tree")


def tree_size(tree):
    """How many trees, forms and pieces of patterns a tree consists of."""
    need_tree(tree)
    return size_of(tree)


def tree_depth(tree):
    """How deep a tree is."""
    need_tree(tree)
    return depth_of(tree)


def parts_of(tree):
    """The list of the parts of a tree, those of rows being their forms."""
    need_tree(tree)
    return list(parts_in(tree))


def part_at(tree, path):
    """The part of a tree to which a path leads."""
    need_tree(tree)
    need_path(tree, path)
    return part_by(tree, path)


def all_paths(tree):
    """The ascending list of all paths of a tree, those into rows, too."""
    need_tree(tree)
    return [path for path, _ in placed_parts(tree, True)]


def words_in(tree):
    """The ascending list of the words of all names of a tree."""
    need_tree(tree)
    return sorted({name[0] for name in all_names(tree)})
