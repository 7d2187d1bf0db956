"""Codes by places, in which each value has a place told once, and how programs are led to them.

A stretch begins behind some places; its lines make the next ones, in turn. The stretches of a test begin behind the
places ahead of the test, and what is made in them is forgotten behind it.
"""

from namesapart.errors import InvalidCode, TooMany
from namesapart.running import need_program
from namesapart.shapes import SIGNS, parts_in, placed_parts, size_of
from namesapart.words import is_amount, is_between

MOST_BLOCKS = 300
MOST_LINES = 600
MOST_TESTS = 60
MOST_HELD = 60
MOST_PROGRAM = 300
LINE_ITEMS = {"amount": 2, "reckon": 4, "apply": 3, "given": 3, "test": 4}


def is_code(value):
    """Whether a value is a code."""
    if not isinstance(value, tuple) or not 1 <= len(value) <= MOST_BLOCKS:
        return False
    if not all([is_block_told(block) for block in value]) or value[0][0] != 0:
        return False
    held = [block[0] for block in value]
    todo = [(stretch, first_place(at, many), 0) for at, (many, stretch) in enumerate(value)]
    lines = 0
    while todo:
        stretch, begin, deep = todo.pop()
        if deep > MOST_TESTS or not is_stretch_told(stretch):
            return False
        end = begin + len(stretch[0])
        lines = lines + len(stretch[0])
        # Great values, and those that share parts, end soon.
        if lines > MOST_LINES or not is_between(stretch[1], 0, end - 1):
            return False
        for place, line in enumerate(stretch[0], start=begin):
            if not is_line(line, place, held):
                return False
            if line[0] == "test":
                todo.extend([(line[2], place, deep + 1), (line[3], place, deep + 1)])
    return True


def is_block_told(value):
    """Whether a value is told like a block, but for its stretch."""
    return isinstance(value, tuple) and len(value) == 2 and is_between(value[0], 0, MOST_HELD)


def is_stretch_told(value):
    """Whether a value is told like a stretch, but for its lines and its last place."""
    return isinstance(value, tuple) and len(value) == 2 and isinstance(value[0], tuple)


def first_place(index, held):
    """The place of the first line of the block with this index, which holds so many values."""
    return 0 if index == 0 else held + 1


def is_line(value, place, held):
    """Whether a value is told like a line that makes this place, but for stretches; held tells what blocks hold."""
    if not isinstance(value, tuple) or not value or not isinstance(value[0], str):
        return False
    kind = value[0]
    if LINE_ITEMS.get(kind) != len(value):
        return False
    if kind == "amount":
        return is_amount(value[1])
    if kind == "reckon":
        return value[1] in SIGNS and are_places(value[2:], place)
    if kind == "apply":
        return are_places(value[1:], place)
    if kind == "test":
        return are_places(value[1:2], place)
    if not is_between(value[1], 1, len(held) - 1) or not isinstance(value[2], tuple):
        return False
    return len(value[2]) == held[value[1]] and are_places(value[2], place)


def are_places(values, place):
    """Whether all values are places ahead of one."""
    return all([is_between(value, 0, place - 1) for value in values])


def need_code(value):
    """Raises an error if a value is no code."""
    if not is_code(value):
        raise InvalidCode("not a code")


def code_of(program):
    """The code of a program."""
    need_program(program)
    need_fitting(program)
    return code_within(program)


def need_fitting(program):
    """Raises an error if a program is too great for a code."""
    if size_of(program) > MOST_PROGRAM:
        raise TooMany(MOST_PROGRAM)


def code_within(program):
    """As code_of."""
    givens = [path for path, part in placed_parts(program, True) if part[0] == "given"]
    # The place of each name at which a given begins is known when its line is made, ahead of its block.
    blocks = {path: 1 + at for at, path in enumerate(givens)}
    writer = Writer(blocks)
    found = [(0, writer.stretch(program, (), {}, 0))]
    for path in givens:
        held, places, body = writer.told[path]
        found.append((held, writer.stretch(body, path + (0,), places, held + 1)))
    return tuple(found)


class Writer:
    """Writes stretches; the numbers of blocks are told by the paths of givens, and each given tells of its block."""

    def __init__(self, blocks):
        self.blocks = blocks
        self.told = {}

    def stretch(self, tree, path, places, begin):
        """The stretch of a tree at a path, names having these places, behind so many places."""
        lines = []
        last = self.write(tree, path, places, begin, lines)
        return (tuple(lines), last)

    def write(self, tree, path, places, begin, lines):
        """Writes the lines of a tree behind others of a stretch that begins there; returns the place of its value."""
        kind = tree[0]
        if kind == "use":
            return places[tree[1]]
        if kind == "hold":
            inner = {**places, tree[1]: self.write(tree[2], path + (0,), places, begin, lines)}
            return self.write(tree[3], path + (1,), inner, begin, lines)
        if kind == "amount":
            line = tree
        elif kind == "given":
            line = self.given_line(tree, path, places)
        elif kind == "test":
            place = self.write(tree[1], path + (0,), places, begin, lines)
            ahead = begin + len(lines)
            two = self.stretch(tree[2], path + (1,), places, ahead)
            line = ("test", place, two, self.stretch(tree[3], path + (2,), places, ahead))
        else:
            told = [self.write(kid, path + (at,), places, begin, lines) for at, kid in enumerate(parts_in(tree))]
            line = (*tree[:-2], *told)
        lines.append(line)
        return begin + len(lines) - 1

    def given_line(self, tree, path, places):
        """The line of a given; what its block holds, and the places of names there, are kept."""
        held = sorted({places[name] for name in free_names(tree)})
        inner = {name: held.index(places[name]) for name in places if places[name] in held}
        self.told[path] = (len(held), {**inner, tree[1]: len(held)}, tree[2])
        return ("given", self.blocks[path], tuple(held))


def free_names(tree):
    """The list of the names that are free in a tree without makers."""
    kind = tree[0]
    if kind == "use":
        return [tree[1]]
    if kind == "given":
        return [name for name in free_names(tree[2]) if name != tree[1]]
    if kind == "hold":
        return free_names(tree[2]) + [name for name in free_names(tree[3]) if name != tree[1]]
    return [name for kid in parts_in(tree) for name in free_names(kid)]


def count_lines(code):
    """How many lines a code has, those in tests, too."""
    need_code(code)
    return sum([lines_in(stretch) for _, stretch in code])


def lines_in(stretch):
    """How many lines a stretch has, those in tests, too."""
    return len(stretch[0]) + sum([lines_in(inner) for line in stretch[0] for inner in inner_stretches(line)])


def inner_stretches(line):
    """The stretches that stand in a line."""
    return line[2:] if line[0] == "test" else ()


def live_places(code):
    """For each block, and for each line of its own stretch, the places that are named behind it."""
    need_code(code)
    return tuple([live_in(first_place(at, held), stretch) for at, (held, stretch) in enumerate(code)])


def live_in(begin, stretch):
    """For each line of a stretch behind so many places, the places up to its own that are named behind it."""
    lines, last = stretch
    named = [last]
    found = []
    for at in range(len(lines) - 1, -1, -1):
        named = sorted({place for place in named if place <= begin + at})
        found.append(tuple(named))
        named = named + places_named(lines[at])
    return tuple(found[::-1])


def places_named(line):
    """The list of the places that a line names, with all that stands in it."""
    kind = line[0]
    if kind == "amount":
        return []
    if kind == "given":
        return list(line[2])
    if kind == "test":
        return [line[1]] + named_in(line[2]) + named_in(line[3])
    return list(line[-2:])


def named_in(stretch):
    """The list of the places that are named in a stretch."""
    return [place for line in stretch[0] for place in places_named(line)] + [stretch[1]]
