"""Filling and unrolling wide rows."""

from namesapart.errors import InvalidNumber, InvalidTree, NotTaken, TooMany
from namesapart.lostrows import need_rows
from namesapart.shapes import (
    MOST_PIECES,
    MOST_ROWS,
    filled_form,
    filled_name,
    parts_in,
    pattern_holes,
    placed_parts,
    replaced_part,
    with_parts,
)
from namesapart.trees import is_tree, stands_alone
from namesapart.widerows import (
    first_refused,
    held_pieces,
    need_pieces,
    need_row,
    numbers_taken,
    run_of_pattern,
    single_pieces,
    turns_for,
)
from namesapart.words import first_words, is_ascending, is_between


def filled_by(row, pieces):
    """The tree to which a wide row is filled by pieces that its pattern takes."""
    need_row(row)
    need_pieces(pieces)
    pattern, form = row
    if first_refused(pattern, pieces) is not None:
        raise NotTaken("the pattern does not take the pieces")
    single, rounds = held_pieces(pattern, pieces)
    tree = filled_wide(form, single, rounds)
    if not is_tree(tree):
        raise InvalidTree("what the row is filled to is no tree")
    return tree


def filled_wide(form, single, rounds):
    """The wide form with what the single holes have, and with what the many holes have at each turn."""
    if form[0] == "fill":
        return single.get(form[1], form)
    if form[0] == "fold":
        return folded(form, single, rounds)
    kids = []
    for kid in parts_in(form):
        if kid[0] == "each":
            kids.extend([filled_form(kid[1], {**single, **held}) for held in rounds])
        else:
            kids.append(filled_wide(kid, single, rounds))
    return filled_name(with_parts(form, kids), single)


def folded(fold, single, rounds):
    """The tree that a fold becomes, put together from its end on."""
    _, step, end = fold
    rests = [path for path, part in placed_parts(step, True) if part[0] == "rest"]
    tree = filled_wide(end, single, rounds)
    for held in rounds[::-1]:
        behind = tree
        tree = filled_form(step, {**single, **held})
        for path in rests:
            tree = replaced_part(tree, path, behind)
    return tree


def unrolled(row, turns):
    """A row that a wide row is, unrolled for so many turns."""
    need_row(row)
    most = max([turns_for(row[0], number) for number in numbers_taken(row[0])])
    if not is_between(turns, 0, most):
        raise InvalidNumber("not an integer from 0 to the most turns")
    return unrolled_row(row, turns)


def unrolled_row(row, turns):
    """As unrolled."""
    pattern, form = row
    rounds = fresh_rounds(pattern, turns)
    run = [piece for fresh in rounds for piece in renamed_run(run_of_pattern(pattern), fresh)]
    rows = [run if piece[0] == "each" else [piece] for piece in pattern]
    filled = filled_wide(form, {}, [fills_of(fresh) for fresh in rounds])
    told = (tuple([piece for pieces in rows for piece in pieces]), filled)
    if not stands_alone(told):
        raise InvalidTree("what the row is unrolled to can stand in no maker")
    return told


def fresh_rounds(pattern, turns):
    """For each turn, the fresh holes for the many holes, by hole."""
    many = list(pattern_holes(run_of_pattern(pattern)))
    taken = many + list(pattern_holes(single_pieces(pattern)))
    fresh = first_words(len(many) * turns, taken)
    return [{hole: fresh[at * len(many) + place] for place, hole in enumerate(many)} for at in range(turns)]


def renamed_run(run, fresh):
    """The run with fresh holes."""
    return [(piece[0], fresh[piece[1]]) if piece[0] in ("any", "name") else piece for piece in run]


def fills_of(fresh):
    """The fills of fresh holes, by the holes for which they stand."""
    return {hole: ("fill", fresh[hole]) for hole in fresh}


def narrowed(rows, numbers):
    """The tuple of the rows that wide rows are, unrolled for each of the numbers of pieces."""
    need_rows(rows)
    if not are_numbers(numbers):
        raise InvalidNumber("not an ascending tuple of numbers of pieces")
    turns = [(row, turns_for(row[0], number)) for row in rows for number in numbers]
    found = [unrolled_row(row, many) for row, many in turns if many is not None]
    if len(found) > MOST_ROWS:
        raise TooMany(MOST_ROWS)
    return tuple(found)


def are_numbers(value):
    """Whether a value is an ascending tuple of one number of pieces or more."""
    if not isinstance(value, tuple) or not 1 <= len(value) <= MOST_PIECES + 1:
        return False
    return all([is_between(number, 0, MOST_PIECES) for number in value]) and is_ascending(value)
