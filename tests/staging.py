"""Staged programs that the tests share, grown by a counted-out row of numbers, and a plain model of how they run."""

from namesapart.words import first_words
from tests.growing import Picks


class End(Exception):
    """The end to which a program comes, other than by a value."""


class Model:
    """Works out staged programs by plain recursion: scopes are rows of triples (name, stage, worth)."""

    def __init__(self, most):
        self.most, self.steps, self.number = most, 0, 0

    def step(self):
        if self.steps == self.most:
            raise End(("more",))
        self.steps += 1

    def look(self, name, stage, scope):
        for bound, own, worth in scope[::-1]:
            if bound == name:
                if own != stage:
                    raise End(("stage", name if isinstance(name, str) else name[0]))
                return worth
        raise End(("wanting", name if isinstance(name, str) else name[0]))

    def value(self, tree, scope):
        kind = tree[0]
        if kind == "amount":
            return tree
        if kind == "use":
            return self.look(tree[1], 0, scope)
        if kind == "given":
            return ("function", tree, scope)
        if kind == "code":
            built = self.code(tree[1], 1, scope)
            if count(built) > 400 or deep(built) > 60:
                raise End(("stuck", "great"))
            return ("code", built)
        if kind == "hold":
            one = self.value(tree[2], scope)
            self.step()
            return self.value(tree[3], scope + [(tree[1], 0, one)])
        if kind == "apply":
            one, two = self.value(tree[1], scope), self.value(tree[2], scope)
            return self.apply(one, two)
        if kind == "reckon":
            one, two = self.value(tree[2], scope), self.value(tree[3], scope)
            if one[0] != "amount" or two[0] != "amount":
                raise End(("stuck", "reckon"))
            amount = {"+": one[1] + two[1], "-": one[1] - two[1], "*": one[1] * two[1]}[tree[1]]
            if abs(amount) > 10 ** 12:
                raise End(("stuck", "great"))
            self.step()
            return ("amount", amount)
        wanted = {"test": "amount", "lift": "amount", "run": "code"}[kind]
        one = self.value(tree[1], scope)
        if one[0] != wanted:
            raise End(("stuck", kind))
        self.step()
        if kind == "test":
            return self.value(tree[2] if one[1] else tree[3], scope)
        return ("code", one) if kind == "lift" else self.value(one[1], [])

    def apply(self, one, two):
        if one[0] != "function":
            raise End(("stuck", "apply"))
        self.step()
        return self.value(one[1][2], one[2] + [(one[1][1], 0, two)])

    def code(self, tree, stage, scope):
        kind = tree[0]
        if kind == "use":
            return self.look(tree[1], stage, scope)
        if kind == "put" and stage == 1:
            one = self.value(tree[1], scope)
            if one[0] != "code":
                raise End(("stuck", "put"))
            self.step()
            return one[1]
        if kind in ("given", "hold"):
            ahead = [self.code(part, stage, scope) for part in tree[2:-1]]
            self.number += 1
            pair = (tree[1] if isinstance(tree[1], str) else tree[1][0], self.number)
            return (kind, pair, *ahead, self.code(tree[-1], stage, scope + [(tree[1], stage, ("use", pair))]))
        stage += {"code": 1, "put": -1}.get(kind, 0)
        return tuple([self.code(part, stage, scope) if isinstance(part, tuple) else part for part in tree])


def kids_of(tree):
    return [part for part in tree[1:] if isinstance(part, tuple) and isinstance(part[0], str) and part[0].isalpha()
            and not (len(part) == 2 and isinstance(part[1], int) and part[0] != "amount")]


def count(tree):
    return 1 + sum(count(kid) for kid in kids_of(tree))


def deep(tree):
    return 1 + max([deep(kid) for kid in kids_of(tree)], default=0)


def model_end(staged, most):
    """What run_staged should return, with the tree of a code told with plain words."""
    model = Model(most)
    try:
        value = model.value(staged, [])
    except End as end:
        return (end.args[0], model.steps)
    if value[0] == "code":
        return (("code", plainly(value[1])), model.steps)
    return (("value", value[1] if value[0] == "amount" else "given"), model.steps)


def plainly(tree):
    """The tree of a code with plain words."""
    free, many = [], []

    def look(part, scope):
        if part[0] == "use" and part[1] not in scope:
            free.append(part[1][0])
        if part[0] in ("given", "hold"):
            many.append(part[1])
        for at, kid in enumerate(kids_of(part)):
            inner = part[0] == "given" or part[0] == "hold" and at == 1
            look(kid, scope + [part[1]] if inner else scope)
    look(tree, [])
    words = iter(first_words(len(many), free))

    def told(part, scope):
        if part[0] == "use":
            return ("use", scope.get(part[1], part[1][0]))
        if part[0] in ("given", "hold"):
            word = next(words)
            ahead = [told(kid, scope) for kid in part[2:-1]]
            return (part[0], word, *ahead, told(part[-1], {**scope, part[1]: word}))
        return tuple([told(kid, scope) if isinstance(kid, tuple) else kid for kid in part])
    return told(tree, {})


class StagedGrower:
    """Grows staged programs by kinds of values: "a" amounts, "c" codes of amounts, "f" functions of amounts.

    Names are used at their own stage, but for one in so many (never, if this is 0).
    """

    def __init__(self, picks, astray):
        self.picks, self.astray = picks, astray

    def name(self, kind, stage, scope):
        if self.astray and self.picks.below(self.astray) == 0 and scope:
            return ("use", self.picks.one_of(scope)[0])
        fitting = []
        for at, (word, own, told) in enumerate(scope):
            if own == stage and told == kind and not any(other[0] == word for other in scope[at + 1:]):
                fitting.append(word)
        return ("use", self.picks.one_of(fitting)) if fitting else None

    def tree(self, kind, left, stage, scope):
        picks = self.picks
        found = self.name(kind, stage, scope) if picks.below(3) == 0 or left <= 0 else None
        if found is not None:
            return found
        if kind == "f":
            word = picks.one_of("xyz")
            if left > 0 and picks.below(4) == 0 and stage < 2:
                return ("run", ("code", self.tree("f", left - 1, stage + 1, scope)))
            return ("given", word, self.tree("a", left - 1, stage, scope + [(word, stage, "a")]))
        if kind == "c":
            if stage == 2 or left <= 0 and picks.below(2):
                return ("lift", self.tree("a", left - 1, stage, scope))
            if left > 0 and picks.below(5) == 0:
                word = picks.one_of("xyz")
                body = self.tree("c", left - 2, stage, scope + [(word, stage, "c")])
                return ("apply", ("given", word, body), self.tree("c", left - 2, stage, scope))
            if left > 0 and picks.below(4) == 0:
                return ("lift", ("run", ("code", self.tree("a", left - 2, stage + 1, scope))))
            if left > 0 and picks.below(30) == 0:
                return self.tree("a", left - 1, stage, scope)
            return ("code", self.tree("a", left - 1, stage + 1, scope))
        if left <= 0:
            return ("amount", picks.below(4))
        told = picks.one_of(("amount", "reckon", "reckon", "test", "hold", "hold", "apply", "apply", "put", "put", "run"))
        if told == "put" and stage == 0:
            told = "run"
        if told == "reckon":
            return (told, picks.one_of("+-*"), self.tree("a", left - 1, stage, scope), self.tree("a", left - 1, stage, scope))
        if told == "test":
            return (told, *[self.tree("a", left - 1, stage, scope) for _ in range(3)])
        if told == "hold":
            word, inner = picks.one_of("xyz"), picks.one_of("aacf")
            one = self.tree(inner, left - 1, stage, scope)
            return (told, word, one, self.tree("a", left - 1, stage, scope + [(word, stage, inner)]))
        if told == "apply":
            return (told, self.tree("f", left - 1, stage, scope), self.tree("a", left - 1, stage, scope))
        if told == "put" and stage > 0:
            return (told, self.tree("c", left - 1, stage - 1, scope))
        if told == "run":
            return (told, self.tree("c", left - 1, stage, scope))
        return ("amount", picks.below(4))


def grown_staged(seed, astray=0):
    """A staged program, grown, whose size is within the bounds."""
    while True:
        picks = Picks(seed)
        kind = picks.one_of("accf")
        tree = StagedGrower(picks, astray).tree(kind, 4 + picks.below(4), 0, [])
        if count(tree) <= 200 and deep(tree) <= 40:
            return tree
        seed += 100003


def reworded(tree, words, scope=None):
    """The staged program with the binders having these words, in the order of its text; all of them unlike."""
    scope = scope or {}
    if tree[0] == "use":
        return ("use", scope[tree[1]])
    if tree[0] in ("given", "hold"):
        word = next(words)
        ahead = [reworded(kid, words, scope) for kid in tree[2:-1]]
        return (tree[0], word, *ahead, reworded(tree[-1], words, {**scope, tree[1]: word}))
    return tuple([reworded(kid, words, scope) if isinstance(kid, tuple) else kid for kid in tree])
