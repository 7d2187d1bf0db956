"""Plain trees, and trees that are alike."""

from namesapart.errors import InvalidWork
from namesapart.makings import first_outermost
from namesapart.meanings import meaning_within, need_work, scoped_parts
from namesapart.shapes import part_by, parts_in, with_parts
from namesapart.trees import need_plain
from namesapart.words import first_words


def is_made(work):
    """Whether no use of a maker stands outside of the rows of a work."""
    need_work(work)
    return has_no_use(work[0])


def has_no_use(tree):
    """Whether no use of a maker stands outside of the rows of a tree."""
    return first_outermost(tree) is None


def plain_tree(work):
    """The plain tree of a work that is made, or the pair that tells where it is wanting."""
    need_work(work)
    if not has_no_use(work[0]):
        raise InvalidWork("a work that is not made")
    return plain_or_wanting(work)


def with_plain_names(tree):
    """The plain tree of a tree without makers, uses of makers and marks."""
    need_plain(tree)
    return plain_or_wanting((tree, ()))


def are_alike(one, other):
    """Whether two trees without makers, uses of makers and marks have the same plain tree."""
    need_plain(one)
    need_plain(other)
    return plain_or_wanting((one, ())) == plain_or_wanting((other, ()))


def plain_or_wanting(work):
    """As plain_tree, of a work that is made."""
    tree = work[0]
    meant = {}
    placed = scoped_parts(tree, False)
    for path, part, around in placed:
        if part[0] == "use":
            found = meaning_within(work, around, part[1])
            if found is not None and part_by(tree, found)[0] == "maker":
                return ("wanting", path)
            meant[path] = found
    return plain_by(tree, placed, meant)


def plain_by(tree, placed, meant):
    """The plain tree of a tree with these parts outside of rows, what uses mean being told by their paths."""
    free = [part[1][0] for path, part, _ in placed if part[0] == "use" and meant[path] is None]
    binders = [path for path, part, _ in placed if part[0] in ("given", "hold")]
    words = first_words(len(binders), free)
    return renamed_plainly(tree, (), meant, {path: word for path, word in zip(binders, words)})


def renamed_plainly(tree, path, meant, words):
    """The part of a plain tree that comes of the part at a path, binders having these words."""
    kind = tree[0]
    if kind == "maker":
        return renamed_plainly(tree[3], path + (len(tree[2]),), meant, words)
    if kind == "use":
        word = tree[1][0] if meant[path] is None else words[meant[path]]
        return ("use", (word, ()))
    if kind == "amount":
        return tree
    kids = [renamed_plainly(kid, path + (at,), meant, words) for at, kid in enumerate(parts_in(tree))]
    if kind in ("given", "hold"):
        return (kind, (words[path], ()), *kids)
    return with_parts(tree, kids)
