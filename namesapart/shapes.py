"""How trees and forms are built, whatever marks their names have.

Names are pairs of a word and of marks; a lotted tree has the same shape as a tree, with other bounds
of its marks. The parts of wide forms ("each", "fold" and "rest"), and those of staged trees ("code", "put",
"run" and "lift"), are walked through here, too.
"""

from namesapart.words import is_amount, is_integer, is_marked, is_word

MOST_SIZE = 1000
MOST_DEPTH = 60
MOST_ROWS = 4
MOST_PIECES = 6
SIGNS = ("+", "-", "*")
BINDERS = ("given", "hold", "maker")
NAMED = ("use", "make", "given", "hold", "maker")
LEAVES = ("use", "amount", "fill")

# Where the trees that stand directly in one begin, if they stand behind one another to its end.
FIRST_PART = {
    "apply": 1,
    "test": 1,
    "reckon": 2,
    "given": 2,
    "hold": 2,
    "each": 1,
    "fold": 1,
    "code": 1,
    "put": 1,
    "run": 1,
    "lift": 1,
}
ITEMS = {
    "amount": 2,
    "use": 2,
    "given": 3,
    "apply": 3,
    "hold": 4,
    "reckon": 4,
    "test": 4,
    "maker": 4,
    "make": 3,
    "fill": 2,
}


def parts_in(tree):
    """The tuple of the trees and forms that stand directly in a tree, in order."""
    first = FIRST_PART.get(tree[0])
    if first is not None:
        return tree[first:]
    if tree[0] == "make":
        return tree[2]
    if tree[0] == "maker":
        return (*[form for _, form in tree[2]], tree[3])
    return ()


def with_parts(tree, kids):
    """The tree with other parts in the places of its own."""
    kind = tree[0]
    if kind in FIRST_PART:
        return tree[:FIRST_PART[kind]] + tuple(kids)
    if kind == "make":
        return (kind, tree[1], tuple(kids))
    if kind == "maker":
        rows = tuple([(row[0], form) for row, form in zip(tree[2], kids)])
        return (kind, tree[1], rows, kids[-1])
    return tree


def part_by(tree, path):
    """The part to which a path leads."""
    part = tree
    for index in path:
        part = parts_in(part)[index]
    return part


def is_path(tree, value):
    """Whether a value is a path of a tree."""
    if not isinstance(value, tuple):
        return False
    part = tree
    for index in value:
        kids = parts_in(part)
        if not is_integer(index) or not 0 <= index < len(kids):
            return False
        part = kids[index]
    return True


def replaced_part(tree, path, part):
    """The tree with another part at a path."""
    if not path:
        return part
    kids = list(parts_in(tree))
    kids[path[0]] = replaced_part(kids[path[0]], path[1:], part)
    return with_parts(tree, kids)


def placed_parts(tree, into_rows):
    """The pairs of a path and of its part, ascending, those in rows only if they are asked for."""
    found = []
    todo = [((), tree)]
    while todo:
        place = todo.pop()
        found.append(place)
        path, part = place
        if part[0] == "maker" and not into_rows:
            todo.append((path + (len(part[2]),), part[3]))
        elif part[0] not in LEAVES:
            kids = [(path + (index,), kid) for index, kid in enumerate(parts_in(part))]
            kids.reverse()
            todo.extend(kids)
    return found


def size_of(tree):
    """How many trees, forms and pieces of patterns a tree consists of."""
    size = 0
    todo = [tree]
    while todo:
        part = todo.pop()
        size = size + 1
        if part[0] == "maker":
            size = size + count_pieces(part)
        if part[0] not in LEAVES:
            todo.extend(parts_in(part))
    return size


def count_pieces(part):
    """How many pieces of patterns stand directly in a part."""
    if part[0] != "maker":
        return 0
    return sum([len(pattern) for pattern, _ in part[2]])


def depth_of(tree):
    """How deep a tree is; the deepest path has one step less."""
    return 1 + max([len(path) for path, _ in placed_parts(tree, True)])


def pattern_holes(pattern):
    """The kinds of the holes of a pattern, by hole."""
    return {piece[1]: piece[0] for piece in pattern if piece[0] in ("any", "name")}


def is_piece(value, bounds):
    """Whether a value is a piece of a pattern, names having marks within the bounds."""
    if not isinstance(value, tuple) or len(value) != 2 or not isinstance(value[0], str):
        return False
    kind, told = value
    if kind in ("any", "name"):
        return is_word(told)
    if kind == "word":
        return is_marked(told, bounds)
    return kind == "amount" and is_amount(told)


def is_pattern(value, holes, bounds):
    """Whether a value is a pattern none of whose holes is one of those around it."""
    if not isinstance(value, tuple) or len(value) > MOST_PIECES:
        return False
    if not all([is_piece(piece, bounds) for piece in value]):
        return False
    found = [piece[1] for piece in value if piece[0] in ("any", "name")]
    return len(set(found)) == len(found) and not any([hole in holes for hole in found])


def are_row_patterns(value, holes, bounds):
    """Whether a value is told like rows, as far as their patterns go."""
    if not isinstance(value, tuple) or not 1 <= len(value) <= MOST_ROWS:
        return False
    if not all([isinstance(row, tuple) and len(row) == 2 for row in value]):
        return False
    return all([is_pattern(row[0], holes, bounds) for row in value])


def is_fill(value, holes):
    """Whether a value is a fill of one of the holes."""
    if not isinstance(value, tuple) or len(value) != 2 or value[0] != "fill":
        return False
    return isinstance(value[1], str) and value[1] in holes


def is_binder_name(value, holes, bounds):
    """Whether a value can be the name of a binder: a name, or the fill of a hole for names."""
    if is_fill(value, holes):
        return holes[value[1]] == "name"
    return is_marked(value, bounds)


def is_node(value, holes, bounds):
    """Whether a value is told like a tree or a form with these holes, but for its parts."""
    if not isinstance(value, tuple) or not value or not isinstance(value[0], str):
        return False
    kind = value[0]
    if ITEMS.get(kind) != len(value):
        return False
    if kind in ("use", "make"):
        if not is_marked(value[1], bounds):
            return False
        return kind == "use" or isinstance(value[2], tuple) and len(value[2]) <= MOST_PIECES
    if kind in BINDERS:
        if not is_binder_name(value[1], holes, bounds):
            return False
        return kind != "maker" or are_row_patterns(value[2], holes, bounds)
    if kind == "amount":
        return is_amount(value[1])
    if kind == "fill":
        return is_fill(value, holes)
    return kind != "reckon" or value[1] in SIGNS


def has_shape(value, bounds):
    """Whether a value is a tree without fills but those of rows, marks being within the bounds."""
    return fits_within(value, bounds, 0, 1)


def fits_within(value, bounds, size, depth):
    """As has_shape, of what stands so deep in a tree, of which so much is counted already.

    What is counted stops at the bounds, so that great values, and those that share parts, end soon.
    """
    todo = [(value, {}, depth)]
    while todo:
        part, holes, depth = todo.pop()
        if depth > MOST_DEPTH or not is_node(part, holes, bounds):
            return False
        size = size + 1
        if part[0] == "maker":
            size = size + count_pieces(part)
            todo.extend([(form, {**holes, **pattern_holes(pattern)}, depth + 1) for pattern, form in part[2]])
            todo.append((part[3], holes, depth + 1))
        elif part[0] not in LEAVES:
            todo.extend([(kid, holes, depth + 1) for kid in parts_in(part)])
        if size > MOST_SIZE:
            return False
    return True


def own_names(tree):
    """The names that stand directly in a tree; of a maker, those in its patterns, too."""
    if tree[0] not in NAMED:
        return []
    first = [] if tree[1][0] == "fill" else [tree[1]]
    if tree[0] != "maker":
        return first
    return first + [piece[1] for pattern, _ in tree[2] for piece in pattern if piece[0] == "word"]


def all_names(tree):
    """All names of a tree, those in its rows, too."""
    found = []
    todo = [tree]
    while todo:
        part = todo.pop()
        if part[0] in NAMED:
            found.extend(own_names(part))
        if part[0] not in LEAVES:
            todo.extend(parts_in(part)[::-1])
    return found


def with_names(tree, names):
    """The tree with its own names changed as the dict tells; fills stay."""
    if tree[0] not in NAMED:
        return tree
    name = names.get(tree[1], tree[1])
    if tree[0] != "maker":
        return (tree[0], name, *tree[2:])
    rows = tuple([(pattern_with_names(pattern, names), form) for pattern, form in tree[2]])
    return ("maker", name, rows, tree[3])


def pattern_with_names(pattern, names):
    """The pattern with its names changed as the dict tells."""
    return tuple([("word", names[piece[1]]) if piece[0] == "word" else piece for piece in pattern])


def marked_here(tree, marks):
    """The tree with marks behind those of its own names."""
    if not marks or tree[0] not in NAMED:
        return tree
    name = tree[1] if tree[1][0] == "fill" else (tree[1][0], tree[1][1] + marks)
    if tree[0] != "maker":
        return (tree[0], name, *tree[2:])
    rows = tuple([(marked_pattern(pattern, marks), form) for pattern, form in tree[2]])
    return ("maker", name, rows, tree[3])


def marked_pattern(pattern, marks):
    """The pattern with marks behind those of all its names."""
    return tuple([(kind, (told[0], told[1] + marks)) if kind == "word" else (kind, told) for kind, told in pattern])


def marked_tree(tree, marks):
    """The tree with marks behind those of all its names."""
    if tree[0] in LEAVES:
        return marked_here(tree, marks)
    kids = [marked_tree(kid, marks) for kid in parts_in(tree)]
    return marked_here(with_parts(tree, kids), marks)


def bared_tree(tree):
    """The tree with all its names bare."""
    whole = with_parts(tree, [bared_tree(kid) for kid in parts_in(tree)])
    return with_names(whole, {name: (name[0], ()) for name in own_names(tree)})


def fitted_pieces(pattern, pieces):
    """The pieces that the holes of a pattern fit, by hole."""
    return {piece[1]: tree for piece, tree in zip(pattern, pieces) if piece[0] in ("any", "name")}


def filled_form(form, pieces):
    """The form with pieces, by hole, in the places of fills; fills of other holes stay."""
    if form[0] in LEAVES:
        return pieces.get(form[1], form) if form[0] == "fill" else form
    kids = [filled_form(kid, pieces) for kid in parts_in(form)]
    return filled_name(with_parts(form, kids), pieces)


def filled_name(form, pieces):
    """The form, a fill for its name having become the name that the piece has."""
    if form[0] not in BINDERS or form[1][0] != "fill" or form[1][1] not in pieces:
        return form
    piece = pieces[form[1][1]]
    # A hole can be filled by another hole, which then stands for the name as it is.
    name = piece[1] if piece[0] == "use" else piece
    return (form[0], name, *form[2:])
