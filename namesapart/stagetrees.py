"""Staged trees, and the stages of their places.

They are told like plain trees, but with words in the place of names, and with four forms more. A scope tells,
by word, the stage of the nearest binder around that binds it.
"""

from namesapart.errors import InvalidProgram, InvalidStaged, InvalidTree
from namesapart.plain import plain_or_wanting
from namesapart.running import is_program
from namesapart.shapes import SIGNS, depth_of, parts_in, size_of, with_parts
from namesapart.trees import need_tree
from namesapart.words import is_amount, is_word

MOST_STAGED_SIZE = 200
MOST_STAGED_DEPTH = 40
MOST_STAGE = 3
FOUR_FORMS = ("code", "put", "run", "lift")
SHIFTS = {"code": 1, "put": -1}
STAGED_ITEMS = {
    "amount": 2,
    "use": 2,
    "given": 3,
    "apply": 3,
    "hold": 4,
    "reckon": 4,
    "test": 4,
    "code": 2,
    "put": 2,
    "run": 2,
    "lift": 2,
}


def is_staged(value):
    """Whether a value is a staged program."""
    todo = [(value, 0, {}, 1)]
    size = 0
    while todo:
        part, stage, scope, depth = todo.pop()
        size = size + 1
        if size > MOST_STAGED_SIZE or depth > MOST_STAGED_DEPTH or not 0 <= stage <= MOST_STAGE:
            return False
        if not is_staged_node(part, scope):
            return False
        todo.extend([(kid, inner, bound, depth + 1) for kid, inner, bound in staged_kids(part, stage, scope)])
    return True


def is_staged_node(value, scope):
    """Whether a value is told like a staged tree without free names in this scope, but for its parts."""
    if not isinstance(value, tuple) or not value or not isinstance(value[0], str):
        return False
    kind = value[0]
    if STAGED_ITEMS.get(kind) != len(value):
        return False
    if kind == "amount":
        return is_amount(value[1])
    if kind == "use":
        return isinstance(value[1], str) and value[1] in scope
    if kind in ("given", "hold"):
        return is_word(value[1])
    return kind != "reckon" or value[1] in SIGNS


def staged_kids(part, stage, scope):
    """The triples of each part of a staged tree, of its stage and of its scope."""
    kind = part[0]
    if kind == "given":
        return [(part[2], stage, {**scope, part[1]: stage})]
    if kind == "hold":
        return [(part[2], stage, scope), (part[3], stage, {**scope, part[1]: stage})]
    inner = stage + SHIFTS.get(kind, 0)
    return [(kid, inner, scope) for kid in parts_in(part)]


def staged_parts(staged):
    """For each part, in ascending order of the paths, its path, itself, its stage and its scope."""
    found = []
    todo = [((), staged, 0, {})]
    while todo:
        place = todo.pop()
        found.append(place)
        path, part, stage, scope = place
        kids = [(path + (at,), *kid) for at, kid in enumerate(staged_kids(part, stage, scope))]
        todo.extend(kids[::-1])
    return found


def need_staged(value):
    """Raises an error if a value is no staged program."""
    if not is_staged(value):
        raise InvalidStaged("not a staged program")


def stages_in(staged):
    """The ascending list of the pairs of a path and of the stage of all places."""
    need_staged(staged)
    return [(path, stage) for path, _, stage, _ in staged_parts(staged)]


def stage_faults(staged):
    """The ascending list of the path, the word, and both stages of all uses that are not at their own stage."""
    need_staged(staged)
    uses = [(path, part[1], stage, scope) for path, part, stage, scope in staged_parts(staged) if part[0] == "use"]
    return [(path, word, stage, scope[word]) for path, word, stage, scope in uses if scope[word] != stage]


def is_calm(staged):
    """Whether no run stands in a staged program, or no place in what a binder of a greater stage binds in."""
    need_staged(staged)
    placed = staged_parts(staged)
    if not any([part[0] == "run" for _, part, _, _ in placed]):
        return True
    # A binder that is hidden by an inner one of its word was looked at where the inner one stands.
    return all([bound <= stage for _, _, stage, scope in placed for bound in scope.values()])


def erased_tree(staged):
    """The plain tree, with plain names, that a staged program is without its four forms."""
    need_staged(staged)
    return plain_or_wanting((core_tree(staged), ()))


def core_tree(staged):
    """The tree that a staged tree is without its four forms, names having no marks."""
    if staged[0] in FOUR_FORMS:
        return core_tree(staged[1])
    whole = with_parts(staged, [core_tree(kid) for kid in parts_in(staged)])
    if whole[0] in ("use", "given", "hold"):
        return (whole[0], (whole[1], ()), *whole[2:])
    return whole


def staged_of(tree):
    """A program as a staged program."""
    need_tree(tree)
    if size_of(tree) > MOST_STAGED_SIZE or depth_of(tree) > MOST_STAGED_DEPTH:
        raise InvalidTree("a tree that is too great for a staged program")
    if not is_program(tree):
        raise InvalidProgram("a tree that is no program")
    return worded_tree(tree)


def worded_tree(tree):
    """The plain tree with words in the place of names."""
    whole = with_parts(tree, [worded_tree(kid) for kid in parts_in(tree)])
    if whole[0] in ("use", "given", "hold"):
        return (whole[0], whole[1][0], *whole[2:])
    return whole
