"""Codes made better, step by step.

What a line sees is told as a list: by place, the line that makes it, None for places that are held or handed.
"""

from namesapart.errors import InvalidStep
from namesapart.placecodes import (
    MOST_LINES,
    MOST_TESTS,
    first_place,
    inner_stretches,
    lines_in,
    need_code,
    places_named,
)
from namesapart.running import reckoned_amount
from namesapart.words import is_amount, is_integer

MOST_STEPS_DONE = 60
MOST_STEPS_TOLD = 100


def better_steps(code):
    """The ascending list of all steps that can be done."""
    need_code(code)
    return steps_in(code)


def steps_in(code):
    """As better_steps."""
    room = MOST_LINES - sum([lines_in(stretch) for _, stretch in code])
    sizes = [(lines_in(stretch), tests_deep(stretch)) for _, stretch in code]
    found = []
    for number, (held, stretch) in enumerate(code):
        seen = [None] * first_place(number, held)
        for word, path in steps_of_stretch(stretch, (), seen, (room, sizes)):
            found.append((word, number, path))
    return sorted(found)


def tests_deep(stretch):
    """How many tests stand within one another in a stretch, at most."""
    return max([0] + [1 + tests_deep(inner) for line in stretch[0] for inner in inner_stretches(line)])


def steps_of_stretch(stretch, path, around, bounds):
    """The list of the pairs of a word and of a path of all steps in a stretch at a path, behind what is seen around."""
    named = named_behind(stretch, len(around))
    seen = list(around)
    firsts = {line: True for line in around if line is not None and line[0] != "test"}
    found = []
    for at, line in enumerate(stretch[0]):
        own = path + (at,)
        if line[0] == "test":
            if makes_amount(seen, line[1]):
                found.append(("chosen", own))
            for number, inner in enumerate(inner_stretches(line)):
                found.extend(steps_of_stretch(inner, own + (number,), seen, bounds))
        else:
            if line in firsts:
                found.append(("same", own))
            if line[0] in ("amount", "given") and len(seen) not in named:
                found.append(("idle", own))
            if is_known(line, seen):
                found.append(("known", own))
            if can_be_put(line, seen, len(path) // 2, bounds):
                found.append(("put", own))
            firsts[line] = True
        seen.append(line)
    return found


def named_behind(stretch, begin):
    """The dict of the places that lines of a stretch behind so many places, or its last, name.

    What a test makes within itself has numbers from its own place on, and is left out.
    """
    lines, last = stretch
    named = [place for at, line in enumerate(lines) for place in places_named(line) if place < begin + at]
    return {place: True for place in named + [last]}


def makes_amount(seen, place):
    """Whether the line that makes a place, if there is one, is that of an amount."""
    return seen[place] is not None and seen[place][0] == "amount"


def is_known(line, seen):
    """Whether a line is a reckon of which it is known what comes, and this is an amount."""
    if line[0] != "reckon" or not makes_amount(seen, line[2]) or not makes_amount(seen, line[3]):
        return False
    return is_amount(known_amount(line, seen))


def known_amount(line, seen):
    """The integer that comes of a reckon of what two lines make."""
    return reckoned_amount(line[1], seen[line[2]][1], seen[line[3]][1])


def can_be_put(line, seen, deep, bounds):
    """Whether a line, in so many tests, is an apply of what a line makes, whose block can come in its place."""
    if line[0] != "apply" or seen[line[1]] is None or seen[line[1]][0] != "given":
        return False
    room, sizes = bounds
    lines, tests = sizes[seen[line[1]][1]]
    return lines - 1 <= room and deep + tests <= MOST_TESTS


def bettered(code, step):
    """The code behind one of the steps that can be done."""
    need_code(code)
    if not is_step_told(step) or step not in steps_in(code):
        raise InvalidStep("not a step that can be done")
    return code_behind(code, step)


def is_step_told(value):
    """Whether a value is told like a step."""
    if not isinstance(value, tuple) or len(value) != 3 or not isinstance(value[0], str):
        return False
    return is_integer(value[1]) and isinstance(value[2], tuple) and all([is_integer(index) for index in value[2]])


def code_behind(code, step):
    """As bettered."""
    word, number, path = step
    held, stretch = code[number]
    changed = stretch_behind(code, stretch, [None] * first_place(number, held), word, path)
    return code[:number] + ((held, changed),) + code[number + 1:]


def stretch_behind(code, stretch, around, word, path):
    """The stretch, behind what is seen around, behind the step of a word at a path in it."""
    lines, last = stretch
    at = path[0]
    seen = around + list(lines[:at])
    line = lines[at]
    if len(path) > 1:
        inner = list(line[2:])
        inner[path[1]] = stretch_behind(code, inner[path[1]], seen, word, path[2:])
        return (lines[:at] + ((*line[:2], *inner),) + lines[at + 1:], last)
    fresh, result = lines_that_come(code, word, line, seen)
    table = list(range(len(seen))) + [result]
    shift = len(fresh) - 1
    behind = [renumbered(other, table, shift) for other in lines[at + 1:]]
    return (lines[:at] + fresh + tuple(behind), moved(last, table, shift))


def lines_that_come(code, word, line, seen):
    """The tuple of the lines that come in the place of one by a step, and the place that is its own one then."""
    place = len(seen)
    if word == "same":
        return ((), seen.index(line))
    if word == "known":
        return ((("amount", known_amount(line, seen)),), place)
    if word == "chosen":
        return line[3] if seen[line[1]][1] == 0 else line[2]
    if word == "idle":
        return ((), place)
    _, block, places = seen[line[1]]
    held, (lines, last) = code[block]
    table = [*places, line[2]]
    shift = place - held - 1
    return (tuple([renumbered(other, table, shift) for other in lines]), moved(last, table, shift))


def moved(place, table, shift):
    """What a place becomes: what the table tells of it, or, behind this, so much more."""
    return table[place] if place < len(table) else place + shift


def renumbered(line, table, shift):
    """The line with all places in it moved."""
    kind = line[0]
    if kind == "amount":
        return line
    if kind == "given":
        return (kind, line[1], tuple([moved(place, table, shift) for place in line[2]]))
    if kind == "test":
        return (kind, moved(line[1], table, shift), *[renumbered_stretch(inner, table, shift) for inner in line[2:]])
    return (*line[:-2], moved(line[-2], table, shift), moved(line[-1], table, shift))


def renumbered_stretch(stretch, table, shift):
    """The stretch with all places in it moved."""
    return (tuple([renumbered(line, table, shift) for line in stretch[0]]), moved(stretch[1], table, shift))


def best_code(code):
    """The code that comes of doing the first step again and again, and the tuple of the steps done."""
    need_code(code)
    done = []
    steps = steps_in(code)
    while steps and len(done) < MOST_STEPS_DONE:
        code = code_behind(code, steps[0])
        done.append(steps[0])
        steps = steps_in(code)
    return (code, tuple(done))


def is_bettering(code, other, value):
    """Whether a value is a tuple of steps that lead from the one code to the other one."""
    need_code(code)
    need_code(other)
    if not isinstance(value, tuple) or len(value) > MOST_STEPS_TOLD:
        return False
    for step in value:
        if not is_step_told(step) or step not in steps_in(code):
            return False
        code = code_behind(code, step)
    return code == other
