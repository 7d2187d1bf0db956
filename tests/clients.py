"""Clients that the tests share, grown by a counted-out row of numbers."""

from namesapart.library import library_words
from namesapart.trees import tree_depth, tree_size
from tests.growing import Picks, read_tree

WORDS = tuple(library_words())

# The pieces of a use by a row: "e" for a tree, "n" for a use of a name, other words for uses of these.
SHAPES = {
    "calc": (("e", "plus", "e"), ("e", "by", "e"), ("e", "plus", "e", "by", "e"), ("e",)),
    "case": (("e", "is", "e", "e", "e"),),
    "joint": (("n", "e", "n", "e", "e"),),
    "left": (("e",),),
    "lets": (("n", "e", "e"), ("n", "e", "n", "e", "e")),
    "nay": (("e",),),
    "orelse": (("e", "e"),),
    "pair": (("e", "e"),),
    "right": (("e",),),
    "sum": (("n", "e", "e"),),
    "times": (("e", "e", "e"),),
}

# Words that forms bring, that makers ask for, and one that nothing else has.
NAMES = ("f", "t", "u", "v", "s", "g", "k", "i", "y", "x", "x", "x")
RARE_NAMES = ("plus", "is", "calc", "nay", "by")


class Clients:
    """Grows clients; bound words are preferred for uses, so that most clients have no free word."""

    def __init__(self, picks, faults):
        self.picks = picks
        self.faults = faults

    def word(self):
        rare = self.faults and self.picks.below(12) == 0
        return self.picks.one_of(RARE_NAMES if rare else NAMES)

    def tree(self, left, bound):
        picks = self.picks
        if left <= 1 or picks.below(9) == 0:
            if bound and picks.below(2):
                return ("use", (picks.one_of(bound), ()))
            if self.faults and picks.below(12) == 0:
                return ("use", (self.word(), ()))
            return ("amount", picks.below(5) - 1)
        kind = picks.one_of(("given", "apply", "hold", "reckon", "reckon", "test") + ("make",) * 8)
        if kind == "make":
            return self.make(left, bound)
        if kind in ("given", "hold"):
            word = self.word()
            ones = [self.tree(left - 1, bound)] if kind == "hold" else []
            return (kind, (word, ()), *ones, self.tree(left - 1, bound + (word,)))
        if kind == "reckon":
            return (kind, picks.one_of("+-*"), self.tree(left - 1, bound), self.tree(left - 1, bound))
        if kind == "apply":
            return (kind, self.function(left - 1, bound), self.tree(left - 1, bound))
        return (kind, *[self.tree(left - 1, bound) for _ in range(3)])

    def function(self, left, bound):
        """A tree that can be applied, mostly."""
        chosen = self.picks.below(6)
        if chosen == 0 or left <= 1:
            return self.tree(left, bound)
        if chosen == 1:
            return self.pair(left, bound)
        word = self.word()
        return ("given", (word, ()), self.tree(left - 1, bound + (word,)))

    def pair(self, left, bound):
        return ("make", ("pair", ()), (self.tree(left - 1, bound), self.tree(left - 1, bound)))

    def make(self, left, bound):
        picks = self.picks
        word = picks.one_of(WORDS)
        if self.faults and picks.below(30) == 0:
            return ("make", (picks.one_of(("zip", "calc", "nay")), ()), (self.tree(left - 1, bound),))
        shape = picks.one_of(SHAPES[word])
        names = [self.word() for piece in shape if piece == "n"]
        inner = self.inner_scopes(word, shape, names, bound)
        pieces = []
        if self.faults and picks.below(25) == 0:
            pieces.append(("amount", 1))
        for at, piece in enumerate(shape):
            if piece == "n":
                pieces.append(("use", (names[len([one for one in shape[:at] if one == "n"])], ())))
            elif piece != "e":
                pieces.append(("use", (piece, ())))
            elif word in ("left", "right") and left > 2 and picks.below(4):
                pieces.append(self.pair(left - 1, inner[at]))
            elif word in ("left", "right") or word == "times" and at == 1:
                pieces.append(self.function(left - 1, inner[at]))
            elif word in ("sum", "times") and at < 2 and picks.below(4):
                pieces.append(("amount", picks.below(4)))
            else:
                pieces.append(self.tree(left - 1, inner[at]))
        return ("make", (word, ()), tuple(pieces))

    def inner_scopes(self, word, shape, names, bound):
        """The words bound in each piece."""
        inner = [bound] * len(shape)
        if word == "lets" and len(shape) == 5:
            inner[3] = bound + (names[0],)
        if names:
            inner[-1] = bound + tuple(names)
        return inner


def grown_client(seed, faults=False):
    """A client within the limits, with a use of a maker at least."""
    while True:
        client = Clients(Picks(seed), faults).tree(2 + seed % 5, ())
        uses = repr(client).count("'make'")
        if 1 <= uses <= 20 and tree_size(client) <= 100 and tree_depth(client) <= 6:
            return client
        seed += 100003


def client(text):
    """The client with this text."""
    return read_tree(text)
