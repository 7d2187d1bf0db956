"""Point [3]: where each of its statements is tested over grown things, and those tests that stand nowhere else.

Texts: test_texts. Alike trees, orders: test_plain. Names that are brought: test_meanings. Lots: test_lots. Wide rows, lost
rows: test_wide. Careless making, renaming, harm: test_careless. Staged programs: test_staged. Orders of modules: test_modules;
linked trees: here. Codes: test_places. Deeds, early trees: test_deeds. Clients: test_clients. Journeys: test_journeys.
"""

import unittest

from namesapart.lostrows import is_lost_paper, lost_paper, lost_rows, pieces_for, row_taking
from namesapart.makings import made_by
from namesapart.meanings import fresh_work, free_words
from namesapart.modulelinks import linked_tree, seen_words
from namesapart.modules import hindrance, is_shelf
from namesapart.plain import plain_tree
from namesapart.running import shown_by
from namesapart.texts import read_tree, tree_text
from namesapart.widerows import taken_by
from tests.growing import Picks, grown_tree
from tests.test_wide import PIECES, fits_by_hand, grown_rows, spread_by_hand

WORDS = ("t", "u", "v", "w")


class Shelves:
    """Grows shelves of modules whose things are closed, and bodies for their goals."""

    def __init__(self, seed):
        self.picks = Picks(seed)
        self.modules = []
        self.gives = {}

    def shelf(self):
        for name in ("a", "b", "c", "d")[:2 + self.picks.below(3)]:
            self.modules.append(self.module(name))
        return tuple(self.modules)

    def module(self, name):
        picks, view, needs = self.picks, {}, []
        for told in self.modules:
            if picks.below(3):
                pairs = {}
                for outer, kind in sorted(self.gives[told[0]].items()):
                    mine = picks.one_of(WORDS)
                    if picks.below(4) and mine not in view:
                        pairs[mine] = outer
                        view[mine] = kind
                needs.append((told[0], 0, tuple(sorted((theirs, mine) for mine, theirs in pairs.items()))))
        own, left = [], [word for word in WORDS + ("x",) if word not in view]
        for word in left[:1 + picks.below(3)]:
            kind = picks.one_of(("hold", "maker"))
            if kind == "hold":
                own.append((kind, word, self.tree(2, dict(view), ())))
            else:
                inner = picks.one_of(WORDS)
                form = ("hold", (inner, ()), ("fill", "e"), self.tree(2, dict(view), (inner,), "e"))
                own.append((kind, word, (((("any", "e"),), form),)))
            view[word] = kind
        self.gives[name] = {outer: view[inner] for outer, inner in zip(("u", "v", "w"), sorted(view))}
        gives = tuple(zip(("u", "v", "w"), sorted(view)))
        return (name, tuple(needs), tuple(own), gives, ())

    def tree(self, left, view, local, hole=None):
        """A tree with words of a view, and with words that are bound in it already."""
        picks = self.picks
        if hole and picks.below(4) == 0:
            return ("fill", hole)
        if left == 0 or picks.below(6) == 0:
            known = [word for word in sorted(view) if view[word] == "hold" and word not in local] + list(local)
            return ("use", (picks.one_of(known), ())) if known and picks.below(4) else ("amount", picks.below(5))
        makers = [word for word in sorted(view) if view[word] == "maker" and word not in local]
        kind = picks.one_of(("reckon", "hold", "make", "make"))
        if kind == "make" and makers:
            return (kind, (picks.one_of(makers), ()), (self.tree(left - 1, view, local, hole),))
        if kind == "hold":
            word = picks.one_of(WORDS)
            return (kind, (word, ()), self.tree(left - 1, view, local, hole), self.tree(left - 1, view, local + (word,), hole))
        return ("reckon", picks.one_of("+-"), self.tree(left - 1, view, local, hole), self.tree(left - 1, view, local, hole))


class Views:
    """Works out trees with words that mean things of modules, each in the view of its home."""

    def __init__(self, modules, goal):
        self.things = {(told[0], thing[1]): (at, thing) for told in modules for at, thing in enumerate(told[2])}
        self.seen = {}
        for told in modules:
            try:
                self.seen[told[0]] = {word: (home, inner) for word, home, inner in seen_words(modules, goal, told[0], 0)}
            except ValueError:
                pass

    def worked(self, tree, module, local):
        """What a tree comes to; local words have amounts, and holes the row of a tree and of where it stands."""
        kind = tree[0]
        if kind == "amount":
            return tree[1]
        if kind == "fill":
            return self.worked(*local["?" + tree[1]])
        if kind == "reckon":
            one, two = self.worked(tree[2], module, local), self.worked(tree[3], module, local)
            return one + two if tree[1] == "+" else one - two
        if kind == "hold":
            return self.worked(tree[3], module, {**local, tree[1][0]: self.worked(tree[2], module, local)})
        if kind == "use" and tree[1][0] in local:
            return local[tree[1][0]]
        home = self.seen[module][tree[1][0]]
        thing = self.things[home][1]
        if kind == "use":
            return self.worked(thing[2], home[0], {})
        return self.worked(thing[2][0][1], home[0], {"?e": (tree[2][0], module, local)})


class Guarantees(unittest.TestCase):
    def test_linked_trees(self):
        """A linked tree shows what its body shows, each word meaning the thing of its home."""
        values = 0
        for seed in range(300):
            grower = Shelves(seed)
            modules = grower.shelf()
            goal = modules[-1][0]
            self.assertTrue(is_shelf(modules))
            if hindrance(modules, goal) is not None:
                continue
            seen = seen_words(modules, goal, goal, 0)
            kinds = {word: [thing[0] for told in modules if told[0] == home for thing in told[2] if thing[1] == inner][0]
                     for word, home, inner in seen}
            body = grower.tree(4, kinds, ())
            shown = shown_by(linked_tree(modules, goal, body), 400)
            if shown[0] == "stopped" and shown[2] == "great":
                continue
            expected = Views(modules, goal).worked(body, goal, {})
            self.assertEqual(shown, ("value", expected), (seed, tree_text(body)))
            values += any([home != goal for _, home, _ in seen]) and "make" in repr(body)
        self.assertGreater(values, 60)

    def test_wide_patterns(self):
        """A wide pattern takes pieces in one way at most."""
        taken = 0
        for at, (pattern, _) in enumerate(grown_rows(200)):
            picks = Picks(at)
            for _ in range(12):
                pieces = tuple([picks.one_of(PIECES) for _ in range(picks.below(7))])
                ways = [turns for turns in range(7) for row in [spread_by_hand(pattern, turns)]
                        if len(row) == len(pieces) and all([fits_by_hand(*pair) for pair in zip(row, pieces)])]
                if not any([piece[0] == "each" for piece in pattern]):
                    ways = ways[:1]
                self.assertLessEqual(len(ways), 1)
                self.assertEqual(taken_by(pattern, pieces) is not None, len(ways) == 1)
                taken += len(ways)
        self.assertGreater(taken, 100)

    def test_lost_rows(self):
        """A row is never come to if and only if, for each number of pieces, a single row ahead is wider there."""
        rows, told = grown_rows(300), [0, 0]
        for seed in range(150):
            picks = Picks(seed)
            chosen = tuple([picks.one_of(rows) for _ in range(2 + picks.below(5))])
            lost = lost_rows(chosen)
            for index in range(len(chosen)):
                told[index in lost] += 1
                if index in lost:
                    self.assertTrue(is_lost_paper(chosen, index, lost_paper(chosen, index)))
                else:
                    self.assertEqual(row_taking(chosen, pieces_for(chosen, index)), index)
        self.assertGreater(min(told), 30)

    def test_texts_and_plain_names(self):
        """The text of a tree is read as this tree; what is made and read has the same plain tree."""
        for seed in range(100):
            tree = grown_tree(seed, True)
            self.assertEqual(read_tree(tree_text(tree)), tree)
            result = made_by(fresh_work(tree), ())
            if result[0] == "made":
                plain = plain_tree(result[1])
                if plain[0] != "wanting":
                    self.assertEqual(read_tree(tree_text(plain)), plain)
                    self.assertEqual(free_words(fresh_work(plain)), free_words(result[1]))

if __name__ == "__main__":
    unittest.main()
