"""Wide patterns and wide rows, and the pieces that they take."""

from namesapart.errors import InvalidPattern, InvalidPieces, InvalidRow
from namesapart.shapes import (
    MOST_PIECES,
    is_node,
    is_pattern,
    parts_in,
    pattern_holes,
    placed_parts,
)
from namesapart.trees import is_tree
from namesapart.words import NAME_BOUNDS

MOST_RUN = 3
MOST_WIDE_SIZE = 200
MOST_WIDE_DEPTH = 30


def is_each_piece(value):
    """Whether a value is told like an "each" of a pattern, but for the pieces of its run."""
    if not isinstance(value, tuple) or len(value) != 2 or value[0] != "each":
        return False
    return isinstance(value[1], tuple) and 1 <= len(value[1]) <= MOST_RUN


def is_wide_pattern(value):
    """Whether a value is a wide pattern."""
    if not isinstance(value, tuple) or len(value) > MOST_PIECES:
        return False
    single = tuple([piece for piece in value if not is_each_piece(piece)])
    if len(single) < len(value) - 1 or not is_pattern(single, {}, NAME_BOUNDS):
        return False
    return is_pattern(run_of_pattern(value), pattern_holes(single), NAME_BOUNDS)


def run_of_pattern(pattern):
    """The run of a wide pattern, () if it has none."""
    for piece in pattern:
        if piece[0] == "each":
            return piece[1]
    return ()


def single_pieces(pattern):
    """The pieces of a wide pattern but for its "each"."""
    return tuple([piece for piece in pattern if piece[0] != "each"])


def is_wide_row(value):
    """Whether a value is a wide row."""
    if not isinstance(value, tuple) or len(value) != 2 or not is_wide_pattern(value[0]):
        return False
    pattern, form = value
    many = pattern_holes(run_of_pattern(pattern))
    if not is_wide_shape(form, pattern_holes(single_pieces(pattern)), many):
        return False
    wide = [part for _, part in placed_parts(form, True) if part[0] in ("each", "fold")]
    if wide and not run_of_pattern(pattern):
        return False
    return all([count_rests(part[1]) <= 1 for part in wide])


def count_rests(form):
    """How often "rest" stands in a form."""
    return len([path for path, part in placed_parts(form, True) if part[0] == "rest"])


def is_wide_shape(value, single, many):
    """Whether a value is a wide form with these holes, however often "rest" stands in its steps."""
    todo = [(value, "form", 1)]
    size = 0
    while todo:
        part, place, depth = todo.pop()
        size = size + 1
        if size > MOST_WIDE_SIZE or depth > MOST_WIDE_DEPTH:
            return False
        holes = {**single, **many} if place in ("run", "step") else single
        if not is_wide_node(part, place, holes):
            return False
        todo.extend([(kid, inner, depth + 1) for kid, inner in placed_kids(part, place)])
    return True


def is_wide_node(value, place, holes):
    """Whether a value is told like a wide form at a place of this kind, but for its parts.

    Kinds of places are "form", "piece" (of a use of a maker), and, in an "each" and in a step, "run"
    and "step".
    """
    if not isinstance(value, tuple) or not value:
        return False
    if value[0] == "each":
        return len(value) == 2 and place == "piece"
    if value[0] == "fold":
        return len(value) == 3 and place in ("form", "piece")
    if value[0] == "rest":
        return len(value) == 1 and place == "step"
    return value[0] != "maker" and is_node(value, holes, NAME_BOUNDS)


def placed_kids(part, place):
    """The pairs of each part of a wide form and of the kind of its place."""
    if part[0] == "each":
        return [(part[1], "run")]
    if part[0] == "fold":
        return [(part[1], "step"), (part[2], "form")]
    if place in ("run", "step"):
        return [(kid, place) for kid in parts_in(part)]
    return [(kid, "piece" if part[0] == "make" else "form") for kid in parts_in(part)]


def need_pattern(value):
    """Raises an error if a value is no wide pattern."""
    if not is_wide_pattern(value):
        raise InvalidPattern("not a wide pattern")


def need_row(value):
    """Raises an error if a value is no wide row."""
    if not is_wide_row(value):
        raise InvalidRow("not a wide row")


def need_pieces(value):
    """Raises an error if a value is no tuple of so many trees."""
    if not isinstance(value, tuple) or len(value) > MOST_PIECES or not all([is_tree(piece) for piece in value]):
        raise InvalidPieces("not a tuple of at most so many trees")


def piece_numbers(pattern):
    """The ascending list of the numbers of pieces that a pattern takes."""
    need_pattern(pattern)
    return numbers_taken(pattern)


def numbers_taken(pattern):
    """As piece_numbers."""
    return [number for number in range(MOST_PIECES + 1) if turns_for(pattern, number) is not None]


def turns_for(pattern, number):
    """The turns of a pattern that takes so many pieces, 0 for one without a run, or None if it does not."""
    left = number - len(single_pieces(pattern))
    run = len(run_of_pattern(pattern))
    if run == 0:
        return 0 if left == 0 else None
    if left < 0 or left % run != 0:
        return None
    return left // run


def stretched(pattern, turns):
    """The pieces of a pattern, its run standing there for so many turns."""
    rows = [piece[1] * turns if piece[0] == "each" else (piece,) for piece in pattern]
    return tuple([piece for row in rows for piece in row])


def refused_at(pattern, pieces):
    """The index of the first piece that does not fit, -1 if so many are not taken, None if all are."""
    need_pattern(pattern)
    need_pieces(pieces)
    return first_refused(pattern, pieces)


def first_refused(pattern, pieces):
    """As refused_at."""
    turns = turns_for(pattern, len(pieces))
    if turns is None:
        return -1
    for at, (piece, tree) in enumerate(zip(stretched(pattern, turns), pieces)):
        if not takes_tree(piece, tree):
            return at
    return None


def takes_tree(piece, tree):
    """Whether a piece of a wide pattern fits a tree."""
    if piece[0] == "word":
        return tree == ("use", piece[1])
    if piece[0] == "name":
        return tree[0] == "use"
    return piece[0] == "any" or piece == tree


def taken_by(pattern, pieces):
    """The ascending tuple of the pairs of a hole and of what it has of the pieces, or None."""
    need_pattern(pattern)
    need_pieces(pieces)
    if first_refused(pattern, pieces) is not None:
        return None
    single, turns = held_pieces(pattern, pieces)
    many = pattern_holes(run_of_pattern(pattern))
    told = [(hole, tuple([turn[hole] for turn in turns])) for hole in many]
    return tuple(sorted([(hole, single[hole]) for hole in single] + told))


def held_pieces(pattern, pieces):
    """The trees of the single holes, by hole, and the list of those of the many holes, for each turn.

    The pieces must be as many as the pattern takes.
    """
    run = run_of_pattern(pattern)
    turns = turns_for(pattern, len(pieces))
    single = {}
    rounds = []
    at = 0
    for piece in pattern:
        if piece[0] == "each":
            for _ in range(turns):
                rounds.append(held_here(run, pieces[at:at + len(run)]))
                at = at + len(run)
        else:
            single.update(held_here((piece,), pieces[at:at + 1]))
            at = at + 1
    return (single, rounds)


def held_here(row, pieces):
    """The trees that the holes of a row of pieces have, by hole."""
    return {piece[1]: tree for piece, tree in zip(row, pieces) if piece[0] in ("any", "name")}
