"""Words that are seen in modules, and one tree for all that a goal needs."""

from namesapart.errors import InvalidModule, InvalidNumber, InvalidTree
from namesapart.meanings import nearest_of
from namesapart.moduleorders import ordered_first
from namesapart.modules import MOST_OFFSET, homes_of, maker_alone, need_free_goal, places_from, reached_modules
from namesapart.renaming import placed_names, places_meaning, renamed_at
from namesapart.shapes import all_names
from namesapart.trees import is_tree, need_bare
from namesapart.words import first_words, is_between


def seen_words(shelf, goal, name, offset):
    """The ascending list of the words seen at an offset in a module, each with its home."""
    modules = need_free_goal(shelf, goal)
    if not isinstance(name, str) or name not in reached_modules(modules, goal):
        raise InvalidModule("not a reached module")
    if not is_between(offset, 0, MOST_OFFSET):
        raise InvalidNumber("not an offset")
    return words_seen(modules, name, offset)


def words_seen(modules, name, offset):
    """As seen_words."""
    _, needs, own, _, _ = modules[name]
    words = [mine for _, own_offset, pairs in needs if own_offset == offset for _, mine in pairs]
    if offset == 0:
        words = words + [thing[1] for thing in own]
    known = {}
    return [(word, *homes_of(modules, (name, offset, word), known)[0]) for word in sorted(set(words))]


def linked_tree(shelf, goal, body):
    """The tree of all things that a goal needs at the stage 0, around a body."""
    modules = need_free_goal(shelf, goal)
    need_bare(body)
    places = [place for place in ordered_first(modules, places_from(modules, goal)) if place[1] == 0]
    things = [(name, thing) for name, _ in places for thing in modules[name][2]]
    taken = words_of_trees([body] + [thing_tree(thing) for _, thing in things])
    homes = [(name, thing[1]) for name, thing in things]
    names = {home: (word, ()) for home, word in zip(homes, first_words(len(homes), taken))}
    seen = {name: names_seen(modules, name, names) for name, _ in places}
    tree = with_free_names(body, seen[goal])
    for name, thing in things[::-1]:
        tree = linked_thing(modules[name], thing, seen[name], tree)
    if not is_tree(tree):
        raise InvalidTree("the linked tree would be none")
    return tree


def thing_tree(thing):
    """The tree of an own thing, that of a maker around an amount."""
    kind, word, told = thing
    return told if kind == "hold" else maker_alone(word, told)


def words_of_trees(trees):
    """The list of the words of all names in trees."""
    return [name[0] for tree in trees for name in all_names(tree)]


def names_seen(modules, name, names):
    """By word, the names of the things that are seen at the offset 0 in a module."""
    return {word: names[(module, inner)] for word, module, inner in words_seen(modules, name, 0)}


def with_free_names(tree, names):
    """The tree with its free words having become names, as far as these are told by word."""
    return renamed_at(tree, (), free_names_changed(tree, names))


def free_names_changed(tree, names):
    """By place, what free words of a tree become that are told a name by word."""
    told = [(place, name[0]) for place, name, around in placed_names(tree) if nearest_of(around, name) is None]
    return {place: names[word] for place, word in told if word in names}


def linked_thing(module, thing, seen, rest):
    """The hold or the maker of an own thing of a module around the rest, by the names that are seen there."""
    kind, word, told = thing
    own = [inner for _, inner, _ in module[2]]
    # Words of the module's own things are seen in those behind them alone.
    hidden = own[own.index(word):]
    names = {inner: seen[inner] for inner in seen if inner not in hidden}
    if kind == "hold":
        return ("hold", seen[word], with_free_names(told, names), rest)
    maker = maker_alone(word, told)
    changed = free_names_changed(maker, names)
    changed.update({place: seen[word] for place in places_meaning(maker, ())})
    return renamed_at(maker, (), changed)[:3] + (rest,)
