"""Deeds that are apart, and trains that are exchanged."""

from namesapart.deeds import behind_deed, behind_end, need_deed, need_deeds, need_most, need_store, worked_within
from namesapart.errors import InvalidDeed, TooMany
from namesapart.meanings import words_free_in

MOST_WORDS = 4
MOST_AMOUNT = 3


def words_asked(deed):
    """The ascending list of the words of a deed."""
    need_deed(deed)
    return words_of_deed(deed)


def words_of_deed(deed):
    """As words_asked."""
    return words_free_in((deed[1], ()))


def are_apart(deed, other_deed):
    """Whether two deeds are apart."""
    need_deed(deed)
    need_deed(other_deed)
    return are_unlike(deed, words_of_deed(deed), other_deed, words_of_deed(other_deed))


def are_unlike(deed, words, other_deed, other_words):
    """Whether two deeds have unlike cells, and neither one's cell is among the words told for the other one."""
    return deed[0] != other_deed[0] and deed[0] not in other_words and other_deed[0] not in words


def are_apart_in(store, deed, other_deed):
    """Whether both deeds are done in a store, have unlike cells, and neither asks for the other one's cell there."""
    need_store(store)
    need_deed(deed)
    need_deed(other_deed)
    if behind_deed(store, deed)[0] == "stopped" or behind_deed(store, other_deed)[0] == "stopped":
        return False
    return are_unlike(deed, worked_within(store, deed[1])[1], other_deed, worked_within(store, other_deed[1])[1])


def exchanged_orders(deeds):
    """The ascending list of the orders of all trains with which a train is exchanged."""
    need_deeds(deeds)
    return orders_of(deeds)


def orders_of(deeds):
    """As exchanged_orders.

    Two deeds that are not apart keep their order however neighbours are exchanged, and nothing else is kept.
    """
    words = [words_of_deed(deed) for deed in deeds]
    ahead = []
    for index, deed in enumerate(deeds):
        near = [at for at in range(index) if not are_unlike(deed, words[index], deeds[at], words[at])]
        ahead.append(near)
    orders = [()]
    for _ in deeds:
        orders = [order + (index,) for order in orders for index in next_ones(order, ahead)]
    return orders


def next_ones(order, ahead):
    """The indices that can come behind an order, those being told that must come ahead of each one."""
    left = [index for index in range(len(ahead)) if index not in order]
    return [index for index in left if all([at in order for at in ahead[index]])]


def are_exchanged(deeds, other_deeds):
    """Whether two trains are exchanged."""
    need_deeds(deeds)
    need_deeds(other_deeds)
    return other_deeds in [tuple([deeds[index] for index in order]) for order in orders_of(deeds)]


def unlike_store(deed, other_deed, most):
    """Any store in which the two orders of two deeds do not tell the same, with amounts up to the most, or None."""
    need_deed(deed)
    need_deed(other_deed)
    need_most(most)
    words = sorted(set([deed[0], other_deed[0]] + words_of_deed(deed) + words_of_deed(other_deed)))
    if len(words) > MOST_WORDS:
        raise InvalidDeed("deeds with more words than a store has cells")
    if most > MOST_AMOUNT:
        raise TooMany(MOST_AMOUNT)
    ends, other_ends = [], []
    for store in all_stores(words, most):
        behind = behind_both(store, deed, ends, other_deed, other_ends)
        if behind != behind_both(store, other_deed, other_ends, deed, ends):
            return store
    return None


def all_stores(words, most):
    """All stores with these cells and with amounts from 0 to the most."""
    stores = [()]
    for word in words:
        stores = [store + ((word, amount),) for store in stores for amount in range(most + 1)]
    return stores


def behind_both(store, first, first_ends, second, second_ends):
    """As train_done, of two deeds whose cells and words the store has all."""
    result = behind_end(store, first, end_known(store, first, first_ends))
    if result[0] == "stopped":
        return result
    return behind_end(result[1], second, end_known(result[1], second, second_ends))


def end_known(store, deed, ends):
    """The end of a deed's tree in a store that has all its words as cells.

    It depends on the cells asked alone, so it is kept for these, and told again where they have the same amounts.
    """
    for asked, end in ends:
        if all([cell in store for cell in asked]):
            return end
    end, words = worked_within(store, deed[1])
    ends.append(([cell for cell in store if cell[0] in words], end))
    return end
