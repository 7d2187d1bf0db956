"""Renaming the binders of trees without marks."""

from namesapart.careless import pattern_names
from namesapart.errors import InvalidPath, InvalidWord
from namesapart.meanings import nearest_of, scoped_parts
from namesapart.shapes import BINDERS, is_path, part_by, parts_in, with_parts
from namesapart.trees import need_bare
from namesapart.words import first_words, is_word


def need_binder(tree, path):
    """Raises an error if a value is not the path of a binder whose name is no fill."""
    if not is_path(tree, path):
        raise InvalidPath("not a path of the tree")
    part = part_by(tree, path)
    if part[0] not in BINDERS or part[1][0] == "fill":
        raise InvalidPath("not the path of a binder whose name is no fill")


def need_word(value):
    """Raises an error if a value is no word."""
    if not is_word(value):
        raise InvalidWord("not a word")


def places_of(tree, path):
    """The ascending list of the places of a binder and of all names that mean it."""
    need_bare(tree)
    need_binder(tree, path)
    return places_meaning(tree, path)


def places_meaning(tree, path):
    """As places_of."""
    names = [place for place, name, around in placed_names(tree) if nearest_of(around, name) == path]
    return sorted([(path, 0)] + names)


def placed_names(tree):
    """The triples of a place, a name and the binders around it, of all names of uses and of patterns."""
    found = []
    for path, part, around in scoped_parts(tree, True):
        if part[0] in ("use", "make"):
            found.append(((path, 0), part[1], around))
        if part[0] == "maker":
            inner = around + [(path, part[1])]
            told = pattern_names(part)
            found.extend([((path + (index,), 1 + at), name, inner) for index, at, name in told])
    return found


def renamed_binder(tree, path, word):
    """The tree behind the renaming of a binder to a word."""
    need_bare(tree)
    need_binder(tree, path)
    need_word(word)
    return renamed_at(tree, (), {place: (word, ()) for place in places_meaning(tree, path)})


def renamed_at(part, path, names):
    """The part at a path, the names at some places having become others, told by place."""
    whole = with_parts(part, [renamed_at(kid, path + (at,), names) for at, kid in enumerate(parts_in(part))])
    if whole[0] == "maker":
        rows = [(renamed_pattern(row[0], path + (at,), names), row[1]) for at, row in enumerate(whole[2])]
        whole = (whole[0], whole[1], tuple(rows), whole[3])
    if (path, 0) in names:
        return (whole[0], names[(path, 0)], *whole[2:])
    return whole


def renamed_pattern(pattern, path, names):
    """The pattern of the row whose form is at a path, the names at some places having become others."""
    told = [(piece, (path, 1 + at)) for at, piece in enumerate(pattern)]
    return tuple([("word", names[place]) if place in names else piece for piece, place in told])


def keeps_meanings(tree, path, word):
    """Whether the renaming of a binder to a word keeps meanings."""
    need_bare(tree)
    need_binder(tree, path)
    need_word(word)
    return word not in barred_words(tree, path)


def first_word(tree, path):
    """The first word, other than that of a binder, to which its renaming keeps meanings."""
    need_bare(tree)
    need_binder(tree, path)
    return first_words(1, [*barred_words(tree, path), part_by(tree, path)[1][0]])[0]


def barred_words(tree, path):
    """The list of the words to which a renaming of a binder changes what some name means.

    A name that means the binder must not come to mean one between both, and a name around which the
    binder stands, but which means what stands further out, or nothing, must not come to mean it.
    """
    barred = []
    for _, name, around in placed_names(tree):
        inner = [binder for binder, _ in around]
        if path in inner:
            at = inner.index(path)
            found = nearest_of(around, name)
            if found == path:
                barred.extend([bound[0] for _, bound in around[at + 1:] if bound[0] != "fill"])
            elif found not in inner[at:]:
                barred.append(name[0])
    return barred
