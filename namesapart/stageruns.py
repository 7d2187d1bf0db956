"""How staged programs are worked out.

Names are words in staged programs, and pairs (word, number) in codes. Values are ("amount", amount),
("function", name, body, scope) and ("code", tree). A scope tells, by name, the stage of its binder, and its worth:
a value at stage 0, at others the use that is built. Work is kept in a row of what is to be done, the next one last,
so that no program is too deep for it.
"""

from namesapart.meanings import nearest_of, scoped_parts
from namesapart.running import need_steps, reckoned_amount
from namesapart.shapes import FIRST_PART, parts_in, with_parts
from namesapart.stagetrees import SHIFTS, is_staged, need_staged
from namesapart.words import first_words, is_amount

MOST_CODE_SIZE = 400
MOST_CODE_DEPTH = 60
MOST_SHOWN = 4


class Worker:
    """What is to be done, what came of what was done, and how many steps and numbers of binders there were."""

    def __init__(self, most, number):
        self.most = most
        self.steps = 0
        self.number = number
        self.todo = []
        self.told = []

    def fresh_pair(self, name):
        """The pair of the word of a name and of a new number."""
        self.number = self.number + 1
        return (word_of(name), self.number)


def word_of(name):
    """The word of a name of a staged program or of a code."""
    return name if isinstance(name, str) else name[0]


def run_staged(staged, most):
    """The pair of the end of a staged program and of how many steps it did."""
    need_staged(staged)
    need_steps(most)
    return end_and_steps(staged, most)


def end_and_steps(staged, most):
    """As run_staged."""
    worker = Worker(most, 0)
    worker.todo.append(("work", staged, {}))
    stop = all_done(worker)
    end = end_of(worker.told[0]) if stop is None else stop
    return (end, worker.steps)


def shown_stages(staged, most):
    """The list of the end of a staged program, and of those of the codes to which it comes."""
    need_staged(staged)
    need_steps(most)
    ends = [end_and_steps(staged, most)[0]]
    while len(ends) < MOST_SHOWN and ends[-1][0] == "code" and is_staged(ends[-1][1]):
        ends.append(end_and_steps(ends[-1][1], most)[0])
    return ends


def end_of(value):
    """The end that shows a value."""
    if value[0] == "amount":
        return ("value", value[1])
    if value[0] == "function":
        return ("value", "given")
    return ("code", with_plain_words(value[1]))


def with_plain_words(tree):
    """The staged tree that a code is with plain words."""
    placed = scoped_parts(tree, False)
    meant = {path: nearest_of(around, part[1]) for path, part, around in placed if part[0] == "use"}
    free = [part[1][0] for path, part, _ in placed if part[0] == "use" and meant[path] is None]
    binders = [path for path, part, _ in placed if part[0] in ("given", "hold")]
    words = {path: word for path, word in zip(binders, first_words(len(binders), free))}
    return worded_by(tree, (), meant, words)


def worded_by(tree, path, meant, words):
    """The part of a code at a path with words in the place of names, binders having these."""
    if tree[0] == "use":
        return ("use", tree[1][0] if meant[path] is None else words[meant[path]])
    whole = with_parts(tree, [worded_by(kid, path + (at,), meant, words) for at, kid in enumerate(parts_in(tree))])
    if path in words:
        return (whole[0], words[path], *whole[2:])
    return whole


def all_done(worker):
    """Does all that is to be done; what is returned is None, or the end by which it is stopped."""
    while worker.todo:
        task = worker.todo.pop()
        if task[0] == "work":
            stop = worked(worker, task[1], task[2])
        elif task[0] == "build":
            stop = built(worker, task[1], task[2], task[3])
        elif task[0] in ("join", "shut"):
            stop = joined(worker, task)
        else:
            stop = handled(worker, task)
        if stop is not None:
            return stop
    return None


def worked(worker, tree, scope):
    """Begins to work out a tree at stage 0."""
    kind = tree[0]
    if kind == "amount":
        worker.told.append(tree)
    elif kind == "use":
        return used(worker, tree[1], 0, scope)
    elif kind == "given":
        worker.told.append(("function", tree[1], tree[2], scope))
    elif kind == "code":
        worker.todo.extend([("shut",), ("build", tree[1], 1, scope)])
    elif kind == "hold":
        worker.todo.extend([("hold", tree[1], tree[3], scope), ("work", tree[2], scope)])
    elif kind == "test":
        worker.todo.extend([("test", tree[2], tree[3], scope), ("work", tree[1], scope)])
    else:
        worker.todo.append(tree[:FIRST_PART[kind]])
        worker.todo.extend([("work", kid, scope) for kid in parts_in(tree)[::-1]])
    return None


def used(worker, name, stage, scope):
    """Tells the worth of a name that is used at a stage."""
    if name not in scope:
        return ("wanting", word_of(name))
    own, worth = scope[name]
    if own != stage:
        return ("stage", word_of(name))
    worker.told.append(worth)
    return None


def built(worker, tree, stage, scope):
    """Begins to build a tree at a stage from 1 on."""
    kind = tree[0]
    if kind == "amount":
        worker.told.append(tree)
    elif kind == "use":
        return used(worker, tree[1], stage, scope)
    elif kind == "put" and stage == 1:
        worker.todo.extend([("put",), ("work", tree[1], scope)])
    elif kind in ("given", "hold"):
        pair = worker.fresh_pair(tree[1])
        inner = {**scope, tree[1]: (stage, ("use", pair))}
        worker.todo.extend([("join", (kind, pair), len(tree) - 2), ("build", tree[-1], stage, inner)])
        worker.todo.extend([("build", one, stage, scope) for one in tree[2:-1]])
    else:
        kids = parts_in(tree)
        worker.todo.append(("join", tree[:FIRST_PART[kind]], len(kids)))
        worker.todo.extend([("build", kid, stage + SHIFTS.get(kind, 0), scope) for kid in kids[::-1]])
    return None


def joined(worker, task):
    """Puts together a tree of the parts that are built, or makes a code of one that is built whole."""
    if task[0] == "join":
        kids = [worker.told.pop() for _ in range(task[2])]
        worker.told.append(task[1] + tuple(kids[::-1]))
        return None
    if not keeps_bounds(worker.told[-1], MOST_CODE_SIZE, MOST_CODE_DEPTH):
        return ("stuck", "great")
    worker.told.append(("code", worker.told.pop()))
    return None


def keeps_bounds(tree, most_size, most_depth):
    """Whether a tree has at most this size and this depth; what is counted stops there."""
    todo = [(tree, 1)]
    size = 0
    while todo:
        part, depth = todo.pop()
        size = size + 1
        if size > most_size or depth > most_depth:
            return False
        todo.extend([(kid, depth + 1) for kid in parts_in(part)])
    return True


def handled(worker, task):
    """Does a step with the values that were worked out for it, if none of them makes it stuck."""
    kind = task[0]
    if kind == "reckon":
        return reckoned_values(worker, task[1])
    two = worker.told.pop() if kind == "apply" else None
    one = worker.told.pop()
    wanted = {"apply": "function", "test": "amount", "lift": "amount", "put": "code", "run": "code"}
    if one[0] != wanted.get(kind, one[0]):
        return ("stuck", kind)
    if worker.steps >= worker.most:
        return ("more",)
    worker.steps = worker.steps + 1
    if kind == "apply":
        worker.todo.append(("work", one[2], {**one[3], one[1]: (0, two)}))
    elif kind == "hold":
        worker.todo.append(("work", task[2], {**task[3], task[1]: (0, one)}))
    elif kind == "test":
        worker.todo.append(("work", task[2] if one[1] == 0 else task[1], task[3]))
    elif kind == "run":
        worker.todo.append(("work", one[1], {}))
    else:
        worker.told.append(one[1] if kind == "put" else ("code", one))
    return None


def reckoned_values(worker, sign):
    """Does the step of a reckon."""
    two = worker.told.pop()
    one = worker.told.pop()
    if one[0] != "amount" or two[0] != "amount":
        return ("stuck", "reckon")
    amount = reckoned_amount(sign, one[1], two[1])
    if not is_amount(amount):
        return ("stuck", "great")
    if worker.steps >= worker.most:
        return ("more",)
    worker.steps = worker.steps + 1
    worker.told.append(("amount", amount))
    return None
