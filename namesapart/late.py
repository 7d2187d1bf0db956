"""What trees show that are made early and late in a train of deeds."""

from namesapart.deeds import behind_train, need_deeds, need_open, need_store, worked_within
from namesapart.errors import InvalidNumber, InvalidWords
from namesapart.running import put_for
from namesapart.words import is_ascending, is_between, is_word

MOST_KNOWN = 4


def need_at(value, deeds):
    """Raises an error if a value is no number of the first deeds of a train."""
    if not is_between(value, 0, len(deeds)):
        raise InvalidNumber("not an integer from 0 to the number of the deeds")


def need_words(value):
    """Raises an error if a value is no ascending tuple of a few words."""
    if not isinstance(value, tuple) or len(value) > MOST_KNOWN or not all([is_word(word) for word in value]):
        raise InvalidWords("not a tuple of at most so many words")
    if not is_ascending(value):
        raise InvalidWords("words that do not ascend")


def shown_late(store, deeds, open_tree):
    """The end of an open tree in the store behind a train, or the stop of this."""
    need_store(store)
    need_deeds(deeds)
    need_open(open_tree)
    return shown_behind(store, deeds, open_tree)


def shown_behind(store, deeds, open_tree):
    """As shown_late."""
    result = behind_train(store, deeds)
    if result[0] == "stopped":
        return result
    return worked_within(result[1], open_tree)[0]


def shown_early(store, deeds, at, words, open_tree):
    """As shown_late, free words having become amounts behind the first so many deeds, if they are cells there."""
    need_store(store)
    need_deeds(deeds)
    need_at(at, deeds)
    need_words(words)
    need_open(open_tree)
    result = behind_train(store, deeds[:at])
    if result[0] == "stopped":
        return result
    return shown_behind(result[1], deeds[at:], with_amounts(open_tree, words, result[1]))


def with_amounts(open_tree, words, store):
    """The open tree with the amounts of a store for the uses of those free words that are told and are cells."""
    for word, amount in store:
        if word in words:
            open_tree = put_for(open_tree, (word, ()), ("amount", amount))
    return open_tree


def unlike_tree(store, deeds, at, words):
    """Any open tree that does not show the same made early and late, or None."""
    need_store(store)
    need_deeds(deeds)
    need_at(at, deeds)
    need_words(words)
    late = behind_train(store, deeds)
    if late[0] == "stopped":
        return None
    early = behind_train(store, deeds[:at])[1]
    for (word, amount), (_, other) in zip(early, late[1]):
        if word in words and amount != other:
            return ("use", (word, ()))
    return None
