"""Trees that the tests share, and trees grown by a counted-out row of numbers."""

from namesapart.texts import read_tree
from namesapart.trees import is_tree

A = "(hold x 1 (maker m (row () x) (hold x 2 (make m))))"
B = "(maker swap (row (any:a any:b) (hold t ?a (- ?b t))) (hold t 5 (make swap 2 t)))"
C = "(maker bind (row (name:n any:e any:b) (hold ?n ?e ?b)) (make bind y 3 (+ y y)))"
D = "(hold x 0 (maker m (row (name:n) (hold ?n 1 x)) (make m x)))"

# A maker within a form, an outer hole within an inner form, and a word that fits by its meaning alone.
E = """(hold w 7 (maker out (row (any:e name:n) (maker in (row (any:f word:w) (hold ?n (+ ?e ?f) (* ?n w)))
    (hold w 2 (make in ?n w)))) (hold v 3 (make out (+ v w) v))))"""
F = """(hold w 7 (maker out (row (any:e name:n) (maker in (row (any:f word:w) (hold ?n (+ ?e ?f) (* ?n w)))
    (make in ?n w))) (hold v 3 (make out (+ v w) v))))"""

# Not a value of the package, and nothing that it could be taken for.
ODD_VALUES = (
    None, True, False, 0, 1, -1, 10 ** 100, "", "a", "(+ 1 2)", (), (1,), [], [("amount", 1)], ("amount",),
    ("amount", True), ("amount", "1"), ("amount", 10 ** 12 + 1), ("use", "x"), ("use", ("x", [])), (None, None),
    ("use", ["x", ()]), ["amount", 1], (("amount", 1),), ("fill", "x"), ("row", (), ("amount", 1)), ((), (), ()),
    ("reckon", "/", ("amount", 1), ("amount", 1)), ("make", ("m", ()), [("amount", 1)]), (("amount", 1), None),
)


def nested(many):
    """A value that is nested so many times."""
    value = ()
    for _ in range(many):
        value = (value,)
    return value


def shared_twice(many):
    """A tree so deep, each tree in it standing in two places at once."""
    tree = ("amount", 1)
    for _ in range(many):
        tree = ("apply", tree, tree)
    return tree


def chain(depth):
    """A tree of this depth, and of this size."""
    tree = ("amount", 1)
    for _ in range(depth - 1):
        tree = ("given", ("x", ()), tree)
    return tree


def broad(size):
    """A plain tree of this size, not deep."""
    if size < 3:
        return chain(size)
    left = (size - 1) // 2
    return ("apply", broad(left), broad(size - 1 - left))


class Picks:
    """A row of numbers, the same each time, that look as if drawn by lot."""

    def __init__(self, seed):
        self.state = seed * 7919 + 17

    def below(self, many):
        self.state = (self.state * 6364136223846793005 + 1442695040888963407) % 2 ** 64
        return (self.state >> 33) % many

    def one_of(self, things):
        return things[self.below(len(things))]


def grown_tree(seed, with_marks=False):
    """A tree with makers and uses of them, most of which can be made."""
    while True:
        picks = Picks(seed)
        tree = Grower(picks, with_marks).tree(5, {}, {}, 0)
        if "'make'" in repr(tree) and is_tree(tree):
            return tree
        seed += 100003


class Grower:
    """Grows trees; scopes tell how many pieces the makers around take, holes which are let, by kind."""

    def __init__(self, picks, with_marks):
        self.picks = picks
        self.with_marks = with_marks

    def name(self, words):
        marks = ()
        if self.with_marks and self.picks.below(3) == 0:
            marks = tuple(sorted({1 + self.picks.below(6) for _ in range(1 + self.picks.below(3))}))
        return (self.picks.one_of(words), marks)

    def binder_name(self, holes, words):
        names = [hole for hole in holes if holes[hole] == "name"]
        if names and self.picks.below(2) == 0:
            return ("fill", self.picks.one_of(names))
        return self.name(words)

    def tree(self, left, scope, holes, nest):
        picks = self.picks
        if holes and picks.below(3) == 0:
            return ("fill", picks.one_of(sorted(holes)))
        if left == 0 or picks.below(8) == 0:
            return ("amount", picks.below(3)) if picks.below(3) == 0 else ("use", self.name("xyz"))
        kind = picks.one_of(("given", "apply", "hold", "hold", "reckon", "test", "maker", "maker", "make", "make"))
        if kind == "given":
            return (kind, self.binder_name(holes, "xyz"), self.tree(left - 1, scope, holes, nest))
        if kind == "hold":
            one = self.tree(left - 1, scope, holes, nest)
            return (kind, self.binder_name(holes, "xyz"), one, self.tree(left - 1, scope, holes, nest))
        if kind == "reckon":
            return (kind, picks.one_of("+-*"), *[self.tree(left - 1, scope, holes, nest) for _ in range(2)])
        if kind == "maker":
            return self.maker(left, scope, holes, nest)
        if kind == "make":
            return self.make(left, scope, holes, nest)
        many = 2 if kind == "apply" else 3
        return (kind, *[self.tree(left - 1, scope, holes, nest) for _ in range(many)])

    def make(self, left, scope, holes, nest):
        if not scope and self.picks.below(20) > 0:
            return ("use", self.name("xyz"))
        if not scope or self.picks.below(40) == 0:
            return ("make", self.name("xm"), ())
        word = self.picks.one_of(sorted(scope))
        pieces = []
        for kind in self.picks.one_of(scope[word]):
            if kind[0] == "word":
                pieces.append(("use", kind[1]))
            elif kind[0] == "name":
                names = [hole for hole in holes if holes[hole] == "name"]
                if names and self.picks.below(2):
                    pieces.append(("fill", self.picks.one_of(names)))
                else:
                    pieces.append(("use", self.name("xyz")))
            else:
                pieces.append(self.tree(min(left - 1, 2), scope, holes, nest))
        return ("make", (word, ()), tuple(pieces))

    def maker(self, left, scope, holes, nest):
        name = self.binder_name(holes, "mnk")
        patterns = [self.pattern(nest) for _ in range(1 + self.picks.below(2))]
        inner = dict(scope)
        if name[0] != "fill":
            inner[name[0]] = patterns
        rows = []
        for pattern in patterns:
            own = {piece[1]: piece[0] for piece in pattern if piece[0] != "word"}
            # Uses within a maker's own forms would mostly go on without end.
            within = inner if self.picks.below(8) == 0 else scope
            rows.append((pattern, self.tree(min(left - 1, 3), within, {**holes, **own}, nest + 1)))
        return ("maker", name, tuple(rows), self.tree(left - 1, inner, holes, nest))

    def pattern(self, nest):
        row = []
        for at in range(self.picks.below(4)):
            kind = self.picks.one_of(("any", "any", "name", "word"))
            row.append((kind, self.name("xyz") if kind == "word" else "efgh"[nest % 4] + "abcd"[at]))
        return tuple(row)


__all__ = ["A", "B", "C", "D", "E", "F", "ODD_VALUES", "Grower", "Picks", "broad", "chain", "grown_tree", "nested",
           "read_tree", "shared_twice"]
