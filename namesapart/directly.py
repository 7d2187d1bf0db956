"""What clients show, told directly: uses of makers of the library are worked out at once.

Values are ("amount", amount), ("function", number), ("pair", number), ("chooser", index), and ("kept", number), a
chooser applied to one value; what the numbered ones consist of is told by the numbers. A scope has values by words.
Work is kept in a row of what is to be done, the next one last, and the values that come are kept in another row,
until they are needed. What comes of applying a pair is told again without being worked out again, if nothing was
counted on the way: where pairs of pairs are applied to one another, so much would be done else that is not counted.
"""

from namesapart.errors import InvalidNumber
from namesapart.library import need_client, need_lot, rows_of_lot
from namesapart.plainuses import index_fitting, meaning_told, need_small
from namesapart.running import reckoned_amount
from namesapart.words import is_amount, is_between

MOST_COUNTED = 200

# What is done with the values of all pieces of a use.
LAST_TASKS = {
    "left": ("onto", ("chooser", 0)),
    "pair": ("pair",),
    "right": ("onto", ("chooser", 1)),
}


class Doer:
    """What is to be done, what came of what was done, the rows of the lot, and how much was counted."""

    def __init__(self, lot, most):
        self.rows = rows_of_lot(lot)
        self.most = most
        self.counted = 0
        self.todo = []
        self.told = []
        self.made = []
        self.kept = {}
        self.came = {}

    def plan(self, tasks):
        """Puts tasks ahead of all that is to be done, in order."""
        self.todo.extend(tasks[::-1])

    def tell(self, kind, parts):
        """Tells a new value that consists of these parts."""
        self.told.append((kind, len(self.made)))
        self.made.append(parts)


def shown_directly(lot, client, most):
    """The first stop of a client, that it is wanting, its free words, or its end."""
    need_lot(lot)
    need_client(client)
    if not is_between(most, 0, MOST_COUNTED):
        raise InvalidNumber("not an integer from 0 to the most that is counted")
    need_small(client)
    told, free = meaning_told(lot, client)
    if told[0] != "plain":
        return told
    if free:
        return ("free", tuple(free))
    return end_done(lot, client, most)


def end_done(lot, client, most):
    """The end of a client whose plain meaning is a program."""
    doer = Doer(lot, most)
    doer.plan([("work", client, {})])
    while doer.todo:
        stop = task_done(doer, doer.todo.pop())
        if stop is not None:
            return stop
    value = doer.told[0]
    return ("value", value[1] if value[0] == "amount" else "given")


def task_done(doer, task):
    """Does what comes first; what is returned is None, or the end by which it is stopped."""
    kind = task[0]
    if kind == "work":
        return worked(doer, task[1], task[2])
    if kind == "apply":
        two = doer.told.pop()
        return applied(doer, doer.told.pop(), two)
    if kind == "onto":
        return applied(doer, doer.told.pop(), task[1])
    if kind == "reckon":
        two = doer.told.pop()
        return reckoned(doer, task[1], doer.told.pop(), two)
    if kind == "test":
        return tested(doer, task)
    if kind == "sum":
        return summed(doer, task)
    if kind == "times":
        return repeated(doer)
    return bound_or_kept(doer, task)


def worked(doer, tree, scope):
    """Begins to work out a tree."""
    kind = tree[0]
    if kind == "amount":
        doer.told.append(tree)
    elif kind == "use":
        doer.told.append(scope[tree[1][0]])
    elif kind == "given":
        doer.tell("function", (tree[1][0], tree[2], scope))
    elif kind == "apply":
        doer.plan([("work", tree[1], scope), ("work", tree[2], scope), ("apply",)])
    elif kind == "reckon":
        doer.plan([("work", tree[2], scope), ("work", tree[3], scope), ("reckon", tree[1])])
    elif kind == "test":
        doer.plan([("work", tree[1], scope), ("test", tree[2], tree[3], scope)])
    elif kind == "hold":
        doer.plan([("work", tree[2], scope), ("bind", (tree[1][0],), tree[3], scope)])
    else:
        doer.plan(tasks_of_use(doer, tree, scope))
    return None


def tasks_of_use(doer, tree, scope):
    """The tasks by which a use of a maker is worked out."""
    _, (word, _), pieces = tree
    if word == "calc":
        return tasks_of_calc(index_fitting(doer.rows[word], pieces, scope), pieces, scope)
    if word == "lets" and len(pieces) == 3:
        return [("work", pieces[1], scope), ("bind", (word_at(pieces, 0),), pieces[2], scope)]
    if word == "lets":
        inner = ("hold", pieces[2][1], pieces[3], pieces[4])
        return [("work", pieces[1], scope), ("bind", (word_at(pieces, 0),), inner, scope)]
    if word == "joint":
        bind = ("bind", (word_at(pieces, 0), word_at(pieces, 2)), pieces[4], scope)
        return [("work", pieces[1], scope), ("work", pieces[3], scope), bind]
    if word == "case":
        test = ("test", pieces[4], pieces[3], scope)
        return [("work", pieces[0], scope), ("work", pieces[2], scope), ("reckon", "-"), test]
    if word == "nay":
        return [("work", pieces[0], scope), ("test", ("amount", 0), ("amount", 1), scope)]
    if word == "orelse":
        return [("work", pieces[0], scope), ("test", None, pieces[1], scope)]
    if word == "sum":
        return [("work", pieces[1], scope), ("sum", word_at(pieces, 0), pieces[2], scope, 0)]
    if word == "times":
        return [("work", pieces[index], scope) for index in (1, 0, 2)] + [("times",)]
    return [("work", piece, scope) for piece in pieces] + [LAST_TASKS[word]]


def tasks_of_calc(index, pieces, scope):
    """The tasks by which a use of "calc" is worked out that is made by the row with this index."""
    works = [("work", piece, scope) for piece in pieces[::2]]
    if index == 0:
        return works + [("reckon", "+")]
    if index == 1:
        return works + [("reckon", "*")]
    if index == 2:
        return works + [("reckon", "*"), ("reckon", "+")]
    return works


def word_at(pieces, index):
    """The word of the use of a name that a piece is."""
    return pieces[index][1][0]


def counts_on(doer):
    """Counts one more, if it is let; what is returned is whether it is."""
    if doer.counted >= doer.most:
        return False
    doer.counted = doer.counted + 1
    return True


def applied(doer, one, two):
    """Applies a value to another one."""
    kind, number = one
    if kind == "amount":
        return ("stuck", "apply")
    if kind == "function":
        if not counts_on(doer):
            return ("more",)
        word, body, scope = doer.made[number]
        doer.plan([("work", body, {**scope, word: two})])
    elif kind == "pair":
        paired(doer, one, two)
    elif kind == "chooser":
        chosen(doer, number, two)
    else:
        index, value = doer.made[number]
        doer.told.append(value if index == 0 else two)
    return None


def paired(doer, one, two):
    """Applies a pair to a value: this to the left value, and what comes to the right one."""
    if (one, two) in doer.came:
        doer.told.append(doer.came[(one, two)])
        return
    left, right = doer.made[one[1]]
    doer.told.extend([two, left])
    doer.plan([("apply",), ("onto", right), ("keep", (one, two), doer.counted)])


def chosen(doer, index, value):
    """Applies a chooser to one value; what comes has the same number each time."""
    if (index, value) in doer.kept:
        doer.told.append(doer.kept[(index, value)])
        return
    doer.tell("kept", (index, value))
    doer.kept[(index, value)] = doer.told[-1]


def reckoned(doer, sign, one, two):
    """Reckons with two values."""
    if one[0] != "amount" or two[0] != "amount":
        return ("stuck", "reckon")
    amount = reckoned_amount(sign, one[1], two[1])
    if not is_amount(amount):
        return ("stuck", "great")
    doer.told.append(("amount", amount))
    return None


def tested(doer, task):
    """Tests a value; where no tree is told for an amount other than 0, this itself comes."""
    _, two, three, scope = task
    one = doer.told.pop()
    if one[0] != "amount":
        return ("stuck", "test")
    if one[1] == 0:
        doer.plan([("work", three, scope)])
    elif two is None:
        doer.told.append(one)
    else:
        doer.plan([("work", two, scope)])
    return None


def summed(doer, task):
    """Begins a round of a sum, so many values of earlier ones being kept, or adds them all."""
    _, word, body, scope, many = task
    number = doer.told.pop()
    if number[0] != "amount":
        return ("stuck", "test")
    if number[1] == 0:
        doer.told.append(number)
        doer.plan([("reckon", "+")] * many)
        return None
    if not counts_on(doer):
        return ("more",)
    inner = {**scope, word: number}
    less = ("reckon", "-", ("use", (word, ())), ("amount", 1))
    doer.plan([("work", body, inner), ("work", less, inner), ("sum", word, body, scope, many + 1)])
    return None


def repeated(doer):
    """Begins a round of "times", or ends it."""
    worth = doer.told.pop()
    left = doer.told.pop()
    if left[0] != "amount":
        return ("stuck", "test")
    function = doer.told.pop()
    if left[1] == 0:
        doer.told.append(worth)
        return None
    if not counts_on(doer):
        return ("more",)
    doer.told.append(function)
    stop = reckoned(doer, "-", left, ("amount", 1))
    if stop is not None:
        return stop
    doer.told.extend([function, worth])
    doer.plan([("apply",), ("times",)])
    return None


def bound_or_kept(doer, task):
    """Binds the latest values to words, makes a pair of them, or keeps the latest one as what came of a pair."""
    if task[0] == "pair":
        right = doer.told.pop()
        doer.tell("pair", (doer.told.pop(), right))
        return None
    if task[0] == "keep":
        if doer.counted == task[2]:
            doer.came[task[1]] = doer.told[-1]
        return None
    _, words, body, scope = task
    inner = {**scope}
    latest = [doer.told.pop() for _ in words]
    for word, value in zip(words, latest[::-1]):
        inner[word] = value
    doer.plan([("work", body, inner)])
    return None
