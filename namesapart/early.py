"""What is made early of open trees, out of what is known of a store."""

from namesapart.deeds import is_open, need_most, need_open, need_store
from namesapart.errors import InvalidStep
from namesapart.makings import fits_at
from namesapart.meanings import words_free_in
from namesapart.plain import plain_or_wanting
from namesapart.running import put_for, reckoned_amount
from namesapart.shapes import all_names, is_path, part_by, placed_parts, replaced_part
from namesapart.words import NAME_BOUNDS, is_amount

MOST_STEPS_TOLD = 100
STEP_WORDS = ("bind", "choose", "drop", "fold", "known", "put")

# What can be put in the place of a name without being worked out first.
READY = ("amount", "given", "use")


def early_steps(open_tree, known):
    """The ascending list of all early steps that can be done."""
    need_open(open_tree)
    need_store(known)
    cells = cells_known(open_tree, known)
    steps = [(word, path) for word in STEP_WORDS for path, _ in placed_parts(open_tree, False)]
    return [step for step in steps if brought_early(open_tree, cells, step[0], step[1]) is not None]


def early_done(open_tree, known, step):
    """The open tree behind an early step."""
    need_open(open_tree)
    need_store(known)
    behind = behind_step(open_tree, known, step)
    if behind is None:
        raise InvalidStep("not an early step that can be done")
    return behind


def is_early_paper(open_tree, known, value):
    """Whether a value is an early paper for an open tree and known cells."""
    need_open(open_tree)
    need_store(known)
    if not isinstance(value, tuple) or len(value) != 2:
        return False
    steps, told = value
    if not isinstance(steps, tuple) or len(steps) > MOST_STEPS_TOLD or not is_open(told):
        return False
    tree = open_tree
    for step in steps:
        tree = behind_step(tree, known, step)
        if tree is None:
            return False
    return tree == told


def early_paper(open_tree, known, most):
    """Any early paper of at most so many steps, that goes on as long as a step other than "bind" can be done."""
    need_open(open_tree)
    need_store(known)
    need_most(most)
    steps = []
    tree = open_tree
    step = ready_step(tree, known)
    while step is not None and len(steps) < most:
        steps.append(step)
        tree = behind_step(tree, known, step)
        step = ready_step(tree, known)
    return (tuple(steps), tree)


def cells_known(open_tree, known):
    """The known amounts by the free words of an open tree."""
    free = words_free_in((open_tree, ()))
    return {word: amount for word, amount in known if word in free}


def ready_step(open_tree, known):
    """The first early step other than "bind" that can be done, or None."""
    cells = cells_known(open_tree, known)
    for path, _ in placed_parts(open_tree, False):
        for word in STEP_WORDS:
            if word != "bind" and brought_early(open_tree, cells, word, path) is not None:
                return (word, path)
    return None


def behind_step(open_tree, known, step):
    """The open tree behind an early step, or None if a value is no such step that can be done."""
    if not isinstance(step, tuple) or len(step) != 2:
        return None
    word, path = step
    if not is_path(open_tree, path):
        return None
    brought = brought_early(open_tree, cells_known(open_tree, known), word, path)
    if brought is None:
        return None
    return plain_or_wanting((replaced_part(open_tree, path, brought), ()))


def brought_early(open_tree, cells, word, path):
    """What comes by an early step in the place of the part at a path, or None if it can't be done."""
    brought = part_early(part_by(open_tree, path), cells, word)
    # By the other steps nothing becomes greater or deeper.
    if word == "put" and brought is not None and not fits_at(open_tree, path, brought, NAME_BOUNDS):
        return None
    return brought


def part_early(part, cells, word):
    """As brought_early, of the part itself, but for the bounds of trees."""
    if word == "known" and part[0] == "use" and part[1][0] in cells:
        return ("amount", cells[part[1][0]])
    if word == "fold" and part[0] == "reckon":
        return folded(part)
    if word == "choose" and part[0] == "test" and part[1][0] == "amount":
        return part[3] if part[1][1] == 0 else part[2]
    if word == "bind" and part[0] == "apply" and part[1][0] == "given":
        return ("hold", part[1][1], part[2], part[1][2])
    if part[0] == "hold" and part[2][0] in READY:
        if word == "put":
            return put_for(part[3], part[1], part[2])
        if word == "drop" and part[1] not in all_names(part[3]):
            return part[3]
    return None


def folded(part):
    """The amount that a reckon becomes, or None if it becomes none."""
    _, sign, one, two = part
    if one[0] != "amount" or two[0] != "amount":
        return None
    amount = reckoned_amount(sign, one[1], two[1])
    return ("amount", amount) if is_amount(amount) else None
