"""Rows that are never come to, told with papers, and pieces that come to the others."""

from namesapart.errors import InvalidNumber, InvalidRows
from namesapart.widerows import (
    first_refused,
    is_wide_row,
    need_pattern,
    need_pieces,
    numbers_taken,
    stretched,
    turns_for,
)
from namesapart.words import first_words, is_between, is_integer

MOST_WIDE_ROWS = 6


def need_rows(value):
    """Raises an error if a value is no tuple of wide rows."""
    if not isinstance(value, tuple) or not 1 <= len(value) <= MOST_WIDE_ROWS:
        raise InvalidRows("not a tuple of so many rows")
    if not all([is_wide_row(row) for row in value]):
        raise InvalidRows("not a tuple of wide rows")


def need_index(rows, value):
    """Raises an error if a value is no index of a row."""
    if not is_between(value, 0, len(rows) - 1):
        raise InvalidNumber("not the index of a row")


def is_wider(pattern, other):
    """Whether a wide pattern takes all that another one takes."""
    need_pattern(pattern)
    need_pattern(other)
    return all([is_wider_for(pattern, other, number) for number in numbers_taken(other)])


def is_wider_for(pattern, other, number):
    """Whether a pattern takes all of so many pieces that another one takes, which does take so many.

    Each piece of a pattern fits some tree, whatever the others fit, so each is looked at alone.
    """
    turns = turns_for(pattern, number)
    if turns is None:
        return False
    ones = stretched(pattern, turns)
    others = stretched(other, turns_for(other, number))
    return all([is_wider_piece(one, told) for one, told in zip(ones, others)])


def is_wider_piece(piece, other):
    """Whether a piece of a pattern fits all trees that another one fits."""
    if piece[0] == "any":
        return True
    if piece[0] == "name":
        return other[0] in ("name", "word")
    return piece == other


def row_taking(rows, pieces):
    """The index of the row to which pieces come, or None."""
    need_rows(rows)
    need_pieces(pieces)
    for index, (pattern, _) in enumerate(rows):
        if first_refused(pattern, pieces) is None:
            return index
    return None


def lost_rows(rows):
    """The ascending list of the indices of all rows that are never come to."""
    need_rows(rows)
    return [index for index in range(len(rows)) if paper_for(rows, index) is not None]


def lost_paper(rows, index):
    """A lost paper for a row, or None if there is none."""
    need_rows(rows)
    need_index(rows, index)
    return paper_for(rows, index)


def paper_for(rows, index):
    """As lost_paper."""
    numbers = numbers_taken(rows[index][0])
    found = [(number, wider_ahead(rows, index, number)) for number in numbers]
    if any([ahead is None for _, ahead in found]):
        return None
    return tuple(found)


def wider_ahead(rows, index, number):
    """The index of the first row ahead that is wider for so many pieces, or None."""
    for ahead in range(index):
        if is_wider_for(rows[ahead][0], rows[index][0], number):
            return ahead
    return None


def is_lost_paper(rows, index, value):
    """Whether a value is a lost paper for a row."""
    need_rows(rows)
    need_index(rows, index)
    if not isinstance(value, tuple) or not all([is_number_pair(pair) for pair in value]):
        return False
    if [number for number, _ in value] != numbers_taken(rows[index][0]):
        return False
    if not all([0 <= ahead < index for _, ahead in value]):
        return False
    return all([is_wider_for(rows[ahead][0], rows[index][0], number) for number, ahead in value])


def is_number_pair(value):
    """Whether a value is a pair of integers."""
    return isinstance(value, tuple) and len(value) == 2 and all([is_integer(number) for number in value])


def pieces_for(rows, index):
    """Pieces that come to a row, or None if none do."""
    need_rows(rows)
    need_index(rows, index)
    pattern = rows[index][0]
    for number in numbers_taken(pattern):
        if wider_ahead(rows, index, number) is None:
            return unlike_pieces(rows, stretched(pattern, turns_for(pattern, number)))
    return None


def unlike_pieces(rows, row):
    """Pieces that a row of pieces of a pattern fits, and that only wider rows take.

    For "any" stands what is neither a use nor an amount, for "name" a use of a name that stands in no
    row, so that nothing narrower fits these.
    """
    word = first_words(1, words_told(rows))[0]
    stands = {"any": ("make", (word, ()), ()), "name": ("use", (word, ()))}
    return tuple([piece_standing(piece, stands) for piece in row])


def piece_standing(piece, stands):
    """A tree that a piece of a pattern fits, one of those told for "any" and for "name"."""
    if piece[0] == "word":
        return ("use", piece[1])
    return stands.get(piece[0], piece)


def words_told(rows):
    """The words of all names in the patterns of rows."""
    pieces = [piece for pattern, _ in rows for piece in stretched(pattern, 1)]
    return [piece[1][0] for piece in pieces if piece[0] == "word"]
