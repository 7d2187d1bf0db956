"""Stores, open trees that are worked out in them, and deeds."""

from namesapart.errors import InvalidDeed, InvalidDeeds, InvalidNumber, InvalidStore, InvalidTree
from namesapart.plain import plain_or_wanting
from namesapart.running import MOST_STEPS, put_for, stepped_within
from namesapart.trees import is_plain
from namesapart.words import is_amount, is_ascending, is_between, is_word

MOST_CELLS = 4
MOST_DEEDS = 5
MOST_ASKED = 100


def is_store(value):
    """Whether a value is a store."""
    if not isinstance(value, tuple) or len(value) > MOST_CELLS:
        return False
    return all([is_cell(cell) for cell in value]) and is_ascending([word for word, _ in value])


def is_cell(value):
    """Whether a value is a pair of a word and of an amount."""
    return isinstance(value, tuple) and len(value) == 2 and is_word(value[0]) and is_amount(value[1])


def is_open(value):
    """Whether a value is an open tree."""
    return is_plain(value) and plain_or_wanting((value, ())) == value


def is_deed(value):
    """Whether a value is a deed."""
    return isinstance(value, tuple) and len(value) == 2 and is_word(value[0]) and is_open(value[1])


def need_store(value):
    """Raises an error if a value is no store."""
    if not is_store(value):
        raise InvalidStore("not a store")


def need_open(value):
    """Raises an error if a value is no open tree."""
    if not is_open(value):
        raise InvalidTree("not an open tree")


def need_deed(value):
    """Raises an error if a value is no deed."""
    if not is_deed(value):
        raise InvalidDeed("not a deed")


def need_deeds(value):
    """Raises an error if a value is no train."""
    if not isinstance(value, tuple) or len(value) > MOST_DEEDS or not all([is_deed(deed) for deed in value]):
        raise InvalidDeeds("not a train of deeds")


def need_most(value):
    """Raises an error if a value is no integer up to which things are asked for."""
    if not is_between(value, 0, MOST_ASKED):
        raise InvalidNumber("not an integer from 0 to the greatest one")


def worked_out(store, open_tree):
    """The pair of the end of an open tree in a store and of the words of the cells asked."""
    need_store(store)
    need_open(open_tree)
    return worked_within(store, open_tree)


def deed_done(store, deed):
    """The store behind a deed, or the stop of it."""
    need_store(store)
    need_deed(deed)
    return behind_deed(store, deed)


def train_done(store, deeds):
    """The store behind a train, or the stop of its first deed that is stopped."""
    need_store(store)
    need_deeds(deeds)
    return behind_train(store, deeds)


def worked_within(store, open_tree):
    """As worked_out."""
    cells = {word: amount for word, amount in store}
    asked = []
    steps = 0
    result = stepped_within(open_tree)
    tree = open_tree
    while result[0] == "asks" and result[1] in cells or result[0] == "step" and steps < MOST_STEPS:
        if result[0] == "asks":
            asked.append(result[1])
            # The amount comes for all uses of the word at once: later ones would ask the same cell again.
            tree = put_for(tree, (result[1], ()), ("amount", cells[result[1]]))
        else:
            steps = steps + 1
            tree = result[1]
        result = stepped_within(tree)
    return (end_told(result), sorted(asked))


def end_told(result):
    """The end that is told where no more is done."""
    if result[0] == "asks":
        return ("stuck", "free")
    if result[0] == "step":
        return ("more",)
    return result


def behind_train(store, deeds):
    """As train_done."""
    result = ("done", store)
    for deed in deeds:
        if result[0] == "done":
            result = behind_deed(result[1], deed)
    return result


def behind_deed(store, deed):
    """As deed_done."""
    if not has_cell(store, deed[0]):
        return ("stopped", ("stuck", "cell"))
    return behind_end(store, deed, worked_within(store, deed[1])[0])


def has_cell(store, word):
    """Whether a store has a word as a cell."""
    return word in [cell for cell, _ in store]


def behind_end(store, deed, end):
    """As deed_done, for a deed whose tree comes to an end in a store that has its cell."""
    if end[0] != "value" or not is_amount(end[1]):
        return ("stopped", end)
    return ("done", tuple([(word, end[1] if word == deed[0] else amount) for word, amount in store]))
