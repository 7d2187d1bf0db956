"""How codes are run, line by line.

Values are ("amount", amount) and ("function", block, values); the values at the places of a frame stand in a list.
"""

from namesapart.errors import InvalidNumber
from namesapart.makings import all_made
from namesapart.placecodes import code_within, need_code, need_fitting
from namesapart.running import program_of, reckoned_amount
from namesapart.trees import need_tree
from namesapart.words import is_amount, is_between

MOST_LINES_DONE = 2000


def need_lines(value):
    """Raises an error if a value is no number of lines."""
    if not is_between(value, 0, MOST_LINES_DONE):
        raise InvalidNumber("not an integer from 0 to the most lines")


def run_code(code, most):
    """The pair of the end of a code and of how many lines were done."""
    need_code(code)
    need_lines(most)
    return run_lines(code, most)


def shown_by_code(tree, most):
    """What a tree shows, its program being run by its code."""
    need_tree(tree)
    need_lines(most)
    told = program_of(all_made((tree, ()), ()))
    if told[0] != "program":
        return told
    need_fitting(told[1])
    return run_lines(code_within(told[1]), most)[0]


class Frame:
    """A stretch that is being done: its lines, the index of the next one, the values at places, and its last place."""

    def __init__(self, stretch, values):
        self.stretch_lines = stretch[0]
        self.at = 0
        self.held = values
        self.last = stretch[1]


def run_lines(code, most):
    """As run_code."""
    frames = [Frame(code[0][1], [])]
    done = 0
    while True:
        frame = frames[-1]
        if frame.at == len(frame.stretch_lines):
            value = frame.held[frame.last]
            frames.pop()
            if not frames:
                return (shown_value(value), done)
            frames[-1].held.append(value)
        else:
            line = frame.stretch_lines[frame.at]
            reason = stuck_reason(line, frame.held)
            if reason is not None:
                return (("stuck", reason), done)
            if done >= most:
                return (("more",), done)
            done = done + 1
            frame.at = frame.at + 1
            begin_line(code, frames, line)


def shown_value(value):
    """The end that shows a value."""
    return ("value", value[1] if value[0] == "amount" else "given")


def stuck_reason(line, values):
    """Why a line is stuck, or None if it is not."""
    kind = line[0]
    if kind == "apply" and values[line[1]][0] == "amount":
        return "apply"
    if kind == "test" and values[line[1]][0] != "amount":
        return "test"
    if kind == "reckon":
        one, two = values[line[2]], values[line[3]]
        if one[0] != "amount" or two[0] != "amount":
            return "reckon"
        if not is_amount(reckoned_amount(line[1], one[1], two[1])):
            return "great"
    return None


def begin_line(code, frames, line):
    """Does a line that is not stuck, or begins with the stretch that it does."""
    values = frames[-1].held
    kind = line[0]
    if kind == "amount":
        values.append(line)
    elif kind == "given":
        values.append(("function", line[1], [values[place] for place in line[2]]))
    elif kind == "reckon":
        values.append(("amount", reckoned_amount(line[1], values[line[2]][1], values[line[3]][1])))
    elif kind == "apply":
        _, block, held = values[line[1]]
        frames.append(Frame(code[block][1], held + [values[line[2]]]))
    else:
        frames.append(Frame(line[3] if values[line[1]][1] == 0 else line[2], list(values)))
