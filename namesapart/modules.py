"""Modules on shelves, what their words mean, and what hinders a goal."""

from namesapart.errors import Hindered, InvalidModule, InvalidShelf
from namesapart.shapes import all_names, size_of
from namesapart.trees import is_tree
from namesapart.words import is_ascending, is_between, is_word

MOST_OFFSET = 2
MOST_NEEDS = 4
MOST_PAIRS = 4
MOST_OWN = 4
MOST_OWN_SIZE = 60
MOST_GIVES = 6
MOST_DEEDS = 6
MOST_MODULES = 8
LAST_STAGE = 3


def is_word_pair(value):
    """Whether a value is a pair of words."""
    return isinstance(value, tuple) and len(value) == 2 and is_word(value[0]) and is_word(value[1])


def are_pairs(value, most, at):
    """Whether a value is an ascending tuple of so many pairs of words, those at this index unlike."""
    if not isinstance(value, tuple) or len(value) > most or not all([is_word_pair(pair) for pair in value]):
        return False
    return is_ascending(value) and are_unlike([pair[at] for pair in value])


def are_unlike(words):
    """Whether no word stands twice in a list."""
    return len(set(words)) == len(words)


def is_need(value):
    """Whether a value is a need."""
    if not isinstance(value, tuple) or len(value) != 3:
        return False
    module, offset, pairs = value
    return is_word(module) and is_between(offset, 0, MOST_OFFSET) and are_pairs(pairs, MOST_PAIRS, 1)


def is_own_thing(value):
    """Whether a value is an own thing."""
    if not isinstance(value, tuple) or len(value) != 3 or not is_word(value[1]):
        return False
    kind, word, told = value
    if kind not in ("hold", "maker"):
        return False
    tree = told if kind == "hold" else maker_alone(word, told)
    if not is_tree(tree) or size_of(tree) > MOST_OWN_SIZE:
        return False
    return not any([marks for _, marks in all_names(tree)])


def maker_alone(word, rows):
    """The tree of a maker around an amount."""
    return ("maker", (word, ()), rows, ("amount", 0))


def is_deed_told(value):
    """Whether a value is a deed of a module."""
    if not isinstance(value, tuple) or len(value) != 2:
        return False
    return value[0] in ("note", "ask") and is_word(value[1])


def is_module(value):
    """Whether a value is a module."""
    if not isinstance(value, tuple) or len(value) != 5 or not is_word(value[0]):
        return False
    _, needs, own, gives, deeds = value
    if not all([isinstance(told, tuple) for told in (needs, own, deeds)]):
        return False
    if len(needs) > MOST_NEEDS or len(own) > MOST_OWN or len(deeds) > MOST_DEEDS:
        return False
    if not all([is_need(need) for need in needs]) or not all([is_own_thing(thing) for thing in own]):
        return False
    if not are_unlike([thing[1] for thing in own]) or not are_pairs(gives, MOST_GIVES, 0):
        return False
    return all([is_deed_told(deed) for deed in deeds])


def is_shelf(value):
    """Whether a value is a shelf."""
    if not isinstance(value, tuple) or not 1 <= len(value) <= MOST_MODULES:
        return False
    return all([is_module(module) for module in value]) and is_ascending([module[0] for module in value])


def need_shelf(value):
    """Raises an error if a value is no shelf."""
    if not is_shelf(value):
        raise InvalidShelf("not a shelf")


def need_goal(shelf, value):
    """Raises an error if a value is no module on a shelf."""
    if not isinstance(value, str) or value not in [module[0] for module in shelf]:
        raise InvalidModule("not a module on the shelf")


def need_free_goal(shelf, goal):
    """Raises an error if a shelf, a goal or what hinders it is in the way; returns the modules by name."""
    need_shelf(shelf)
    need_goal(shelf, goal)
    what = what_hinders(shelf, goal)
    if what is not None:
        raise Hindered(what)
    return modules_by_name(shelf)


def modules_by_name(shelf):
    """The modules of a shelf, by name."""
    return {module[0]: module for module in shelf}


def hindrance(shelf, goal):
    """What hinders a goal, or None if nothing does."""
    need_shelf(shelf)
    need_goal(shelf, goal)
    return what_hinders(shelf, goal)


def what_hinders(shelf, goal):
    """As hindrance."""
    modules = modules_by_name(shelf)
    reached = reached_modules(modules, goal)
    needs = [(name, need) for name in reached for need in modules[name][1]]
    lacking = [("lack", name, need[0]) for name, need in needs if need[0] not in modules]
    if lacking:
        return min(lacking)
    ring = least_ring({name: next_modules(modules[name]) for name in reached})
    if ring is not None:
        return ("ring", ring)
    far = [("far", name, stage) for name, stage in places_from(modules, goal) if stage > LAST_STAGE]
    if far:
        return min(far)
    found = ungiven_words(modules, needs)
    if not found:
        found = words_without_one_home(modules, reached)
    return found[0] if found else None


def reached_modules(modules, goal):
    """The ascending list of the names of all modules on the shelf that are reached from a goal."""
    found = [goal]
    # Names that are found on the way come behind, and are looked at in their turn.
    at = 0
    while at < len(found):
        fresh = sorted({need[0] for need in modules[found[at]][1]})
        found = found + [name for name in fresh if name in modules and name not in found]
        at = at + 1
    return sorted(found)


def next_modules(module):
    """The ascending list of the names of the modules that one needs with the offset 0."""
    return sorted({name for name, offset, _ in module[1] if offset == 0})


def least_ring(following):
    """The least one of the shortest rings by what follows each name, or None if there is none."""
    for length in range(1, len(following) + 1):
        for name in following:
            ring = ring_behind(following, (name,), length)
            if ring is not None:
                return ring
    return None


def ring_behind(following, names, length):
    """The least ring of this length that begins with these names, or None."""
    if len(names) == length:
        return names if names[0] in following[names[-1]] else None
    for name in following[names[-1]]:
        if name not in names:
            ring = ring_behind(following, names + (name,), length)
            if ring is not None:
                return ring
    return None


def places_needed_by(modules, place):
    """The ascending list of the places that a place needs."""
    name, stage = place
    return sorted({(needed, stage + offset) for needed, offset, _ in modules[name][1]})


def places_from(modules, goal):
    """The ascending list of all places to which one comes from that of the goal, those too far needing nothing."""
    found = {(goal, 0): True}
    todo = [(goal, 0)]
    while todo:
        place = todo.pop()
        if place[1] <= LAST_STAGE:
            fresh = [needed for needed in places_needed_by(modules, place) if needed not in found]
            found.update({needed: True for needed in fresh})
            todo.extend(fresh)
    return sorted(found)


def ungiven_words(modules, needs):
    """The ascending list of what tells of words that are needed and not given."""
    return sorted([
        ("ungiven", name, needed, theirs)
        for name, (needed, _, pairs) in needs
        for theirs, _ in pairs
        if inner_word(modules[needed], theirs) is None
    ])


def inner_word(module, outer):
    """The inner word that a module gives as an outer one, or None."""
    for given, inner in module[3]:
        if given == outer:
            return inner
    return None


def words_without_one_home(modules, reached):
    """The list of what tells of words that are given without a home, or, behind them, of those with two or more."""
    known = {}
    unseen = [
        ("unseen", name, outer)
        for name in reached
        for outer, inner in modules[name][3]
        if not homes_of(modules, (name, 0, inner), known)
    ]
    told = [(name, offset, mine) for name in reached for _, offset, pairs in modules[name][1] for _, mine in pairs]
    doubtful = [("doubt", *place) for place in told if len(homes_of(modules, place, known)) > 1]
    return sorted(unseen) + sorted(doubtful)


def homes_of(modules, place, known):
    """The ascending list of the homes of a word at an offset in a module, all three told as one.

    Those that are found are kept among the known ones.
    """
    if place in known:
        return known[place]
    name, offset, word = place
    module = modules[name]
    if offset == 0 and word in [thing[1] for thing in module[2]]:
        return [(name, word)]
    sources = [
        (needed, 0, inner_word(modules[needed], theirs))
        for needed, own_offset, pairs in module[1]
        for theirs, mine in pairs
        if own_offset == offset and mine == word
    ]
    known[place] = sorted({home for source in sources for home in homes_of(modules, source, known)})
    return known[place]
