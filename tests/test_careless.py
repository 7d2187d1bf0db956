"""Points [22] to [25] and [59] to [61]: careless making, renaming, and harmless rows."""

import unittest

from namesapart.careless import bare_tree, caught_names, made_carelessly, shown_carelessly
from namesapart.errors import InvalidNumber, InvalidPath, InvalidRow, InvalidTree, InvalidWord
from namesapart.harmless import harm_tree, is_harm_tree, is_harmless, is_simple, sites_of
from namesapart.lots import lots_off
from namesapart.makings import made_by, made_once, outermost_uses
from namesapart.meanings import binder_of, fresh_work
from namesapart.plain import plain_tree
from namesapart.renaming import first_word, keeps_meanings, places_of, renamed_binder
from namesapart.running import shown_by
from namesapart.shapes import BINDERS, placed_parts
from namesapart.texts import tree_text
from namesapart.trees import all_paths, is_tree, part_at, tree_depth, tree_size
from tests.growing import A, B, C, D, Grower, Picks, grown_tree, read_tree

ONE = ("amount", 1)


def row_of(text):
    """The row with this text, alone in a maker."""
    return read_tree(f"(maker m {text} 0)")[2][0]


def made(text, *paths):
    """The work of a tree behind the makings at these paths."""
    work = fresh_work(read_tree(text))
    for path in paths:
        work = made_once(work, path)[1]
    return work


def works_of(seed):
    """All works that come of a grown tree, made one by one."""
    work = fresh_work(grown_tree(seed))
    found = [work]
    while outermost_uses(work):
        result = made_once(work, outermost_uses(work)[0])
        if result[0] == "stopped":
            break
        work = result[1]
        found.append(work)
    return found


class Point22(unittest.TestCase):
    def test_bare_trees(self):
        self.assertEqual(bare_tree(fresh_work(read_tree("(hold x@1 y@2@3 (make z@4))"))), read_tree("(hold x y (make z))"))
        tree = read_tree("(maker m@1 (row (word:w@2 any:e) (given x@3 (+ ?e x@4))) 1)")
        self.assertEqual(bare_tree(fresh_work(tree)), read_tree("(maker m (row (word:w any:e) (given x (+ ?e x))) 1)"))
        for seed in range(20):
            for work in works_of(seed):
                self.assertEqual(bare_tree(work), lots_off(work[0]))

    def test_caught_uses(self):
        self.assertEqual(caught_names(made(A, (1, 1, 1))), [((1, 1, 1), (), (1, 1))])
        self.assertEqual(caught_names(made(B, (1, 1))), [((1, 1, 1, 0), (1,), (1, 1))])
        self.assertEqual(caught_names(made(C, (1,))), [])

    def test_caught_from_nothing_and_to_nothing(self):
        self.assertEqual(caught_names(made("(maker m (row () x) (given x (make m)))", (1, 0))), [((1, 0), None, (1,))])
        self.assertEqual(caught_names(made("(maker m (row (any:e) (hold t 1 ?e)) (make m t))", (1,))), [((1, 1), None, (1,))])
        # The name means a binder by the rows of a maker around which none of its word stands, but the maker's own.
        work = (("apply", ("maker", ("m", ()), (((), ONE),), ONE), ("use", ("m", (1,)))), ((0,),))
        self.assertEqual(caught_names(work), [((1,), (0,), None)])

    def test_caught_uses_of_makers(self):
        text = "(maker k (row () 1) (maker m (row () (make k)) (maker k (row () 2) (make m))))"
        self.assertEqual(caught_names(made(text, (1, 1, 1))), [((1, 1, 1), (), (1, 1))])

    def test_names_in_patterns_of_makers(self):
        text = "(hold w 1 (maker m (row () (maker k (row (any:e) 1) (row (any:e word:w) x) 2)) (hold w 3 (make m))))"
        work = made(text, (1, 1, 1))
        self.assertEqual(caught_names(work), [((1, 1, 1, 1), (), (1, 1))], "at the path of the second row's form")

    def test_names_in_rows_are_not_looked_at(self):
        text = "(hold x 1 (maker m (row () (maker k (row () x) 2)) (hold x 3 (make m))))"
        self.assertEqual(caught_names(made(text, (1, 1, 1))), [])
        text = "(hold x 1 (maker m (row () (maker k (row () (maker l (row (word:x) 1) 2)) 2)) (hold x 3 (make m))))"
        self.assertEqual(caught_names(made(text, (1, 1, 1))), [])

    def test_names_in_pieces_are_looked_at(self):
        text = "(hold x 1 (maker k (row (any:e) ?e) (maker m (row () (make k x)) (hold x 3 (make m)))))"
        self.assertEqual(caught_names(made(text, (1, 1, 1, 1))), [((1, 1, 1, 1, 0), (), (1, 1, 1))])

    def test_each_triple_once_and_ascending(self):
        text = "(hold w 1 (maker m (row () (maker k (row (word:w word:w word:v) w) 2)) (hold v 4 (hold w 3 (make m)))))"
        work = made(text, (1, 1, 1, 1))
        self.assertEqual(caught_names(work), [((1, 1, 1, 1, 0), None, (1, 1)), ((1, 1, 1, 1, 0), (), (1, 1, 1))])

    def test_caught_by_hand(self):
        many = 0
        for seed in range(120):
            for work in works_of(seed):
                bare = fresh_work(bare_tree(work))
                expected = set()
                for path, part in placed_parts(work[0], False):
                    told = [(path, part[1])] if part[0] in ("use", "make") else []
                    if part[0] == "maker":
                        told += [(path + (at,), piece[1]) for at, (pattern, _) in enumerate(part[2])
                                 for piece in pattern if piece[0] == "word"]
                    for place, name in told:
                        pair = (binder_of(work, place, name), binder_of(bare, place, (name[0], ())))
                        if pair[0] != pair[1]:
                            expected.add((place, *pair))
                found = caught_names(work)
                self.assertEqual(set(found), expected)
                self.assertEqual(found, sorted(found, key=lambda told: [told[0]] + [(0,) if p is None else (1, p) for p in told[1:]]))
                self.assertEqual(len(found), len(expected))
                many += len(found)
        self.assertGreater(many, 20)

    def test_careless_making(self):
        self.assertEqual(tree_text(made_carelessly(read_tree(A))[1]), "(hold x 1 (maker m (row () x) (hold x 2 x)))")
        for text, shown in ((A, ("value", 2)), (B, ("value", 0)), (C, ("value", 6)), (D, ("value", 1)),
                            ("(make z)", ("stopped", (), "maker")), ("(+ x 1)", ("free", ("x",))),
                            ("(maker m (row () 1) (+ 1 m))", ("wanting", (1, 1))), ("(apply 1 2)", ("stuck", "apply")),
                            ("(maker m (row (1) 1) (+ 1 (make m 2)))", ("stopped", (1, 1), "row"))):
            self.assertEqual(shown_carelessly(read_tree(text), 9), shown, text)
        self.assertEqual(shown_carelessly(read_tree(C), 1), ("more",))
        self.assertEqual(shown_carelessly(read_tree(C), 2), ("value", 6))

    def test_words_by_bare_meaning(self):
        text = "(hold w 1 (maker k (row (word:w) 8) (row (any:e) 9) (maker m (row () (make k w)) (hold w 2 (make m)))))"
        self.assertEqual(shown_by(read_tree(text), 9), ("value", 8))
        self.assertEqual(shown_carelessly(read_tree(text), 9), ("value", 9))

    def test_the_maker_by_bare_meaning(self):
        text = "(maker k (row () 1) (maker m (row () (make k)) (maker k (row () 2) (make m))))"
        self.assertEqual(shown_by(read_tree(text), 9), ("value", 1))
        self.assertEqual(shown_carelessly(read_tree(text), 9), ("value", 2))

    def test_forty_makings(self):
        def tree_of(many):
            pieces = ["(make m)"] * many
            while len(pieces) > 1:
                pieces = [f"(+ {pieces[0]} {pieces[1]})"] + pieces[2:]
            return read_tree("(maker m (row () 1) " + pieces[0] + ")")
        self.assertEqual(shown_carelessly(tree_of(40), 400), ("value", 40))
        last = tree_of(41)
        path = outermost_uses(fresh_work(last))[-1]
        self.assertEqual(made_carelessly(last), ("stopped", path, "great"))
        self.assertEqual(shown_carelessly(last, 400), ("stopped", path, "great"))
        endless = read_tree("(maker m (row () (make m)) (make m))")
        self.assertEqual(made_carelessly(endless), ("stopped", (1,), "great"))
        wrong = read_tree("(maker m (row () (make m 1)) (make m))")
        self.assertEqual(made_carelessly(wrong), ("stopped", (1,), "row"))

    def test_other_stops_are_ahead_of_forty_makings(self):
        rows = "(row () 1) (row (any:e) ?e)"
        uses = "(make m)"
        for _ in range(39):
            uses = f"(+ (make m) {uses})"
        for last, reason in (("(make k)", "maker"), ("(make m 1 2)", "row"), ("(make m 1)", "great")):
            tree = read_tree(f"(maker m {rows} (apply {uses} {last}))")
            self.assertEqual(made_carelessly(tree), ("stopped", (2, 1), reason))

    def test_great_trees(self):
        big = "(+ 1 1)"
        for _ in range(7):
            big = f"(+ {big} {big})"
        row = "(row (any:e) (+ (+ ?e ?e) (+ ?e ?e)))"
        self.assertEqual(made_carelessly(read_tree(f"(maker m {row} (make m {big}))")), ("stopped", (1,), "great"))
        self.assertEqual(made_carelessly(read_tree(f"(maker m (row (any:e) (+ ?e 1)) (make m {big}))"))[0], "made")

    def test_no_name_caught_on_the_way(self):
        same = unlike = 0
        for seed in range(250):
            tree = grown_tree(seed)
            works = works_of(seed)
            if any(caught_names(work) for work in works):
                unlike += 1
                continue
            careful, careless = made_by(fresh_work(tree), ()), made_carelessly(tree)
            self.assertEqual(careful[0], careless[0])
            if careful[0] == "made":
                same += 1
                self.assertEqual(bare_tree(careful[1]), careless[1])
                self.assertEqual(plain_tree(careful[1]), plain_tree(fresh_work(careless[1])))
            elif careful[2] != "great":
                self.assertEqual(careful, careless)
            if careful[0] == "made":
                self.assertEqual(shown_by(tree, 50), shown_carelessly(tree, 50))
        self.assertGreater(same, 80)
        self.assertGreater(unlike, 10)

    def test_errors(self):
        for text in ("(hold x@1 1 x)", "(maker m (row (word:x@1) 1) 2)", "(maker m (row () (use@2)) 1)".replace("(use@2)", "u@2")):
            self.assertRaises(InvalidTree, made_carelessly, read_tree(text))
            self.assertRaises(InvalidTree, shown_carelessly, read_tree(text), -1)
        for most in (-1, 401, True, None, "1"):
            self.assertRaises(InvalidNumber, shown_carelessly, read_tree(A), most)
        self.assertEqual(shown_carelessly(ONE, 0), ("value", 1))
        self.assertEqual(shown_carelessly(ONE, 400), ("value", 1))


def binder_paths(tree):
    """The paths of all binders whose names are no fills."""
    return [path for path, part in placed_parts(tree, True) if part[0] in BINDERS and part[1][0] != "fill"]


def meanings_told(tree):
    """What each name of a tree means, by its place, told anew without the package's own meanings."""
    found = {}

    def walk(part, path, scope):
        if part[0] in ("use", "make"):
            found[(path, 0)] = scope.get(part[1][0])
        inner = dict(scope)
        if part[0] in BINDERS and part[1][0] != "fill":
            inner[part[1][0]] = path
        if part[0] == "maker":
            for at, (pattern, form) in enumerate(part[2]):
                for number, piece in enumerate(pattern):
                    if piece[0] == "word":
                        found[(path + (at,), 1 + number)] = inner.get(piece[1][0])
                walk(form, path + (at,), inner)
            walk(part[3], path + (len(part[2]),), inner)
        elif part[0] == "hold":
            walk(part[2], path + (0,), scope)
            walk(part[3], path + (1,), inner)
        elif part[0] == "given":
            walk(part[2], path + (0,), inner)
        elif part[0] == "make":
            for at, piece in enumerate(part[2]):
                walk(piece, path + (at,), scope)
        else:
            first = 2 if part[0] == "reckon" else 1
            for at, kid in enumerate(part[first:] if part[0] in ("apply", "reckon", "test") else ()):
                walk(kid, path + (at,), scope)
    walk(tree, (), {})
    return found


class Point23(unittest.TestCase):
    def test_places(self):
        self.assertEqual(places_of(read_tree(A), ()), [((), 0), ((1, 0), 0)])
        tree = read_tree("(hold w 1 (maker m (row (any:e word:w) (+ w ?e)) (row (word:v word:m word:w) 1) (make m 1 w)))")
        self.assertEqual(places_of(tree, ()), [((), 0), ((1, 0), 2), ((1, 0, 0), 0), ((1, 1), 3), ((1, 2, 1), 0)])
        self.assertEqual(places_of(tree, (1,)), [((1,), 0), ((1, 1), 2), ((1, 2), 0)])

    def test_binders_in_forms(self):
        tree = read_tree("(maker m (row (name:n any:b) (hold x 1 (given ?n (+ x ?b)))) x)")
        self.assertEqual(places_of(tree, (0,)), [((0,), 0), ((0, 1, 0, 0), 0)])
        self.assertEqual(tree_text(renamed_binder(tree, (0,), "y")),
                         "(maker m (row (name:n any:b) (hold y 1 (given ?n (+ y ?b)))) x)")
        self.assertRaises(InvalidPath, places_of, tree, (0, 1))

    def test_names_in_patterns_mean_what_they_mean_in_the_rows(self):
        tree = read_tree("(maker m (row (word:m) (make m m)) (make m m))")
        renamed = renamed_binder(tree, (), "k")
        self.assertEqual(tree_text(renamed), "(maker k (row (word:k) (make k k)) (make k k))")
        self.assertTrue(keeps_meanings(tree, (), "k"))

    def test_renamed_by_hand(self):
        kept = 0
        for seed in range(60):
            tree = grown_tree(seed)
            told = meanings_told(tree)
            for path in binder_paths(tree)[:6]:
                places = places_of(tree, path)
                self.assertEqual(places, sorted([(path, 0)] + [place for place, binder in told.items() if binder == path]))
                for word in ("x", "y", "z", "m", "n", "k", "q", "aa"):
                    renamed = renamed_binder(tree, path, word)
                    self.assertTrue(is_tree(renamed))
                    keeps = meanings_told(renamed) == told
                    self.assertIs(keeps_meanings(tree, path, word), keeps, (tree_text(tree), path, word))
                    kept += keeps
                    self.assertEqual(places_of(renamed, path) == places, places_of(renamed, path) == places)
                    if not keeps:
                        continue
                    self.assertEqual(places_of(renamed, path), places)
                    self.assertEqual(renamed_binder(renamed, path, part_at(tree, path)[1][0]), tree)
        self.assertGreater(kept, 300)

    def test_what_is_shown_stays(self):
        shown = 0
        for seed in range(80):
            tree = grown_tree(seed)
            for path in binder_paths(tree)[:4]:
                for word in (first_word(tree, path), "y", "q"):
                    if keeps_meanings(tree, path, word):
                        renamed = renamed_binder(tree, path, word)
                        self.assertEqual(shown_by(renamed, 60), shown_by(tree, 60))
                        one, other = made_by(fresh_work(tree), ()), made_by(fresh_work(renamed), ())
                        self.assertEqual(one[0], other[0])
                        if one[0] == "made":
                            self.assertEqual(one[1][1], other[1][1])
                            self.assertEqual(plain_tree(one[1]), plain_tree(other[1]))
                        shown += 1
        self.assertGreater(shown, 150)

    def test_own_word(self):
        for seed in range(20):
            tree = grown_tree(seed)
            for path in binder_paths(tree):
                self.assertEqual(renamed_binder(tree, path, part_at(tree, path)[1][0]), tree)
                self.assertTrue(keeps_meanings(tree, path, part_at(tree, path)[1][0]))

    def test_barred_words(self):
        for text, word, keeps in (("(given x y)", "y", False), ("(given x (given y x))", "y", False),
                                  ("(given x (given y y))", "y", True), ("(given x (given y (+ x y)))", "y", False),
                                  ("(hold x y 1)", "y", True), ("(hold x 1 y)", "y", False),
                                  ("(given x (make y))", "y", False), ("(given x (make x y))", "y", False),
                                  ("(given x (maker y (row () 1) (make y)))", "y", True),
                                  ("(given x (maker y (row (word:x) 1) (make y)))", "y", False),
                                  ("(given x (maker m (row (word:y) 1) 1))", "y", False),
                                  ("(given x (maker m (row () (given y x)) 1))", "y", False),
                                  ("(given x (maker m (row (name:n) (given ?n x)) 1))", "n", True)):
            self.assertIs(keeps_meanings(read_tree(text), (), word), keeps, text)

    def test_first_words(self):
        self.assertEqual(first_word(read_tree(A), ()), "a")
        self.assertEqual(first_word(read_tree("(given a a)"), ()), "b")
        self.assertEqual(first_word(read_tree("(given b a)"), ()), "c")
        self.assertEqual(first_word(read_tree("(given x (hold a 1 x))"), ()), "b")
        self.assertEqual(first_word(read_tree("(given x (hold a x a))"), ()), "a", "a hold binds in its body alone")
        self.assertEqual(first_word(read_tree("(given x (hold a 1 a))"), ()), "a", "told of all words, also bound ones")

    def test_words_barred_up_to_z_and_aa(self):
        def told(words):
            uses = "1"
            for word in words:
                uses = f"(+ {word} {uses})"
            return first_word(read_tree(f"(given x {uses})"), ())
        letters = "abcdefghijklmnopqrstuvwxyz"
        self.assertEqual(told([letter for letter in letters if letter not in "xz"]), "z")
        self.assertEqual(told([letter for letter in letters if letter != "x"]), "aa")
        self.assertEqual(told([letter for letter in letters if letter != "x"] + ["aa"]), "ab")
        self.assertEqual(told([letter for letter in letters if letter not in "xy"]), "y")

    def test_errors(self):
        tree = read_tree(A)
        for function, rest in ((places_of, ()), (renamed_binder, ("y",)), (keeps_meanings, ("y",)), (first_word, ())):
            for path in ((0,), (1, 0), (1, 1, 1), (9,), None, [1], (True,)):
                self.assertRaises(InvalidPath, function, tree, path, *rest)
            self.assertRaises(InvalidTree, function, read_tree("(hold x@1 1 x)"), (9,), *rest)
            self.assertRaises(InvalidTree, function, ("fill", "x"), (), *rest)
        for function in (renamed_binder, keeps_meanings):
            for word in ("given", "", "Y", "abcdefg", "y1", None, ("y", ())):
                self.assertRaises(InvalidWord, function, tree, (), word)
            self.assertRaises(InvalidPath, function, tree, (0,), "given")


def grown_row(seed):
    """A simple row, grown."""
    while True:
        picks = Picks(seed)
        grower = Grower(picks, False)
        kinds = [picks.one_of(("any", "name", "name")) for _ in range(1 + picks.below(3))]
        holes = {"efgh"[at]: kind for at, kind in enumerate(kinds)}
        form = grower.tree(3, {"x": [()]} if picks.below(3) else {}, holes, 0)
        for _ in range(picks.below(3)):
            form = ("given", grower.binder_name(holes, "xyz"), form)
        row = (tuple((kind, hole) for hole, kind in holes.items()), ("given", ("x", ()), form))
        if "maker" not in repr(form) and tree_size(("maker", ("m", ()), (row,), ONE)) < 40:
            return row
        seed += 100003


class Points24And25(unittest.TestCase):
    def test_simple_rows(self):
        for text, simple in (("(row () x)", True), ("(row (any:e name:n 5) (given ?n (+ ?e x)))", True),
                             ("(row (word:w) 1)", False), ("(row () (maker k (row () 1) 2))", False), ("(row () x@1)", False),
                             ("(row () (make k@1))", False), ("(row () (given x@1 2))", False), ("(row () (make k 1))", True)):
            self.assertIs(is_simple(row_of(text)), simple, text)
            if not simple:
                for function in (sites_of, is_harmless, harm_tree):
                    self.assertRaises(InvalidRow, function, row_of(text))
                self.assertRaises(InvalidRow, is_harm_tree, row_of(text), None)

    def test_sites(self):
        for text, sites in (
            ("(row () x)", [((), "free")]), ("(row () (make k))", [((), "free")]), ("(row () (hold x 1 x))", []),
            ("(row () (hold x x x))", [((0,), "free")]), ("(row () (given x (make x x)))", []),
            ("(row (any:a) (hold t 1 (+ t ?a)))", [((1, 1), "fill")]), ("(row (any:a) (hold t ?a t))", []),
            ("(row (name:n) (hold t 1 (hold ?n 2 (+ t ?n))))", [((1, 1, 0), "between")]),
            ("(row (name:n) (hold ?n 2 (hold t 1 (+ t ?n))))", [((1, 1, 1), "fill")]),
            ("(row (name:n name:o) (given ?n (given t (given ?o (+ ?n ?o)))))", [((0, 0, 0, 0), "fill")]),
            ("(row (name:n) (given x (given ?n (given x x))))", []),
            ("(row (name:n) (given x (given ?n (make x))))", [((0, 0), "between")]),
            ("(row (name:n) (given ?n x))", [((0,), "free")]),
            ("(row (name:n) (given x (hold ?n x x)))", [((0, 1), "between")]),
            ("(row (name:n any:e) (given ?n ?e))", []),
            ("(row (any:e) (+ (given x (+ x ?e)) (+ x y)))", [((0, 0, 1), "fill"), ((1, 0), "free"), ((1, 1), "free")]),
        ):
            self.assertEqual(sites_of(row_of(text)), sites, text)
            self.assertIs(is_harmless(row_of(text)), not sites)

    def test_the_first_kind_of_a_path(self):
        # Free, and a handed binder stands around, too: a path has one kind, the first.
        self.assertEqual(sites_of(row_of("(row (name:n) (hold y 1 (given ?n x)))")), [((1, 0), "free")])

    def test_least_harm_trees(self):
        for text, size in (("(row () x)", 4), ("(row () (make k))", 4), ("(row (any:a) (hold t 1 (+ t ?a)))", 9),
                           ("(row (name:n) (hold t 1 (hold ?n 2 (+ t ?n))))", 11), ("(row (name:n) (given ?n x))", 6),
                           ("(row (name:n 7 any:e) (given ?n (+ ?e x)))", 12), ("(row (7) (+ 1 x))", 8),
                           ("(row (name:n) (+ (given ?n 1) x))", 9), ("(row (name:n) (+ x (given ?n y)))", 8)):
            row = row_of(text)
            tree = harm_tree(row)
            self.assertTrue(is_harm_tree(row, tree), text)
            self.assertEqual(tree_size(tree), size, text)
        self.assertIsNone(harm_tree(row_of("(row (name:n any:e) (given ?n ?e))")))

    def test_no_lesser_harm_tree(self):
        """All trees of a maker with a row, and of a body of one size less, are looked at for small rows."""
        words = ("m", "x", "t")

        def bodies(size):
            if size == 1:
                return [ONE] + [("use", (word, ())) for word in words] + [("make", (word, ()), ()) for word in words]
            found = [("make", (word, ()), pieces) for word in words for many in range(1, size)
                     for pieces in rows_of(size - 1, many)]
            found += [("given", (word, ()), body) for word in words for body in bodies(size - 1)]
            for first in range(1, size - 1):
                found += [("apply", one, two) for one in bodies(first) for two in bodies(size - 1 - first)]
                found += [("hold", (word, ()), one, two) for word in words for one in bodies(first)
                          for two in bodies(size - 1 - first)]
            return found

        def rows_of(size, many):
            if many == 0:
                return [()] if size == 0 else []
            return [(one, *rest) for first in range(1, size - many + 2) for one in bodies(first)
                    for rest in rows_of(size - first, many - 1)]
        for text in ("(row () x)", "(row (any:a) (hold t 1 ?a))", "(row (name:n) (given ?n x))", "(row (any:a) x)",
                     "(row (name:n) (given t (given ?n t)))"):
            row = row_of(text)
            least = tree_size(harm_tree(row))
            around = tree_size(("maker", ("m", ()), (row,), ONE)) - 1
            for size in range(1, least - around):
                for body in bodies(size):
                    for word in words:
                        self.assertFalse(is_harm_tree(row, ("maker", (word, ()), (row,), body)))

    def test_rows_too_great_for_harm_trees(self):
        def wide(many):
            form = "x"
            for _ in range(many):
                form = f"(+ {form} 1)" if form.count("(") % 2 else f"(+ 1 {form})"
            return form
        deep = row_of(f"(row () {wide(57)})")
        self.assertEqual(tree_depth(harm_tree(deep)), 59)
        deeper = row_of(f"(row () {wide(58)})")
        self.assertEqual(sites_of(deeper)[0][1], "free")
        self.assertIsNone(harm_tree(deeper))

        def broad(size):
            if size == 1:
                return "x"
            left = (size - 1) // 2
            return f"(+ {broad(left)} {broad(size - 1 - left)})" if size > 2 else "(given y x)"
        self.assertEqual(tree_size(("maker", ("m", ()), (row_of(f"(row () {broad(499)})"),), ONE)), 501)
        self.assertIsNotNone(harm_tree(row_of(f"(row () {broad(499)})")))
        self.assertIsNone(harm_tree(row_of(f"(row () {broad(500)})")), "what is made would be of size 1002")
        self.assertFalse(is_harmless(row_of(f"(row () {broad(500)})")))

    def test_what_is_no_harm_tree(self):
        row = row_of("(row () x)")
        good = read_tree("(maker m (row () x) (given x (make m)))")
        self.assertTrue(is_harm_tree(row, good))
        for text in ("(maker m (row () x) (make m))", "(maker m (row () x) (given x (+ (make m) (make m))))",
                     "(maker m (row () y) (given y (make m)))", "(maker m (row () x) (row () 1) (given x (make m)))",
                     "(maker m (row () x) (given x (make m 1)))", "(maker m (row () x) (given x (make k)))",
                     "(maker m (row () x) (given x x))", "(maker m (row () x) (given x (+ y@1 (make m))))", "(given x 1)", "(maker m (row () x) (given x@1 (make m)))",
                     "(maker m (row () x) (maker k (row () 1) (given x (make m))))",
                     "(maker m (row () x) (given y (make m)))"):
            self.assertFalse(is_harm_tree(row, read_tree(text)), text)
        for value in (None, 1, (), [good], list(good), ("maker",), "(make m)", ("fill", "x")):
            self.assertIs(is_harm_tree(row, value), False)
        own = row_of("(row () (make k))")
        self.assertTrue(is_harm_tree(own, read_tree("(maker m (row () (make k)) (given k (make m)))")),
                        "the use in the row is not counted")

    def test_harm_of_grown_rows(self):
        kinds = {}
        for seed in range(300):
            row = grown_row(seed)
            self.assertTrue(is_simple(row))
            tree = harm_tree(row)
            self.assertIs(tree is None, is_harmless(row))
            for _, kind in sites_of(row):
                kinds[kind] = kinds.get(kind, 0) + 1
            if tree is not None:
                self.assertTrue(is_harm_tree(row, tree))
                least = 2 * len(row[0]) + tree_size(("maker", ("m", ()), ((row[0], row[1]),), ONE)) - len(row[0])
                self.assertIn(tree_size(tree), (least, least + 1))
        self.assertEqual(sorted(kinds), ["between", "fill", "free"])
        self.assertGreater(min(kinds.values()), 10)

    def test_programs_of_harmless_rows_have_no_caught_name(self):
        rows = ["(row (name:n any:e any:b) (hold ?n ?e ?b))", "(row (any:e) (+ ?e ?e))", "(row (any:f any:g) (apply ?f ?g))",
                "(row (name:n) (given ?n (given u u)))", "(row (any:e any:f) (test ?e (given x x) ?f))"]
        looked = 0
        for seed in range(80):
            picks = Picks(seed)

            def grown(left):
                if left == 0 or picks.below(5) == 0:
                    return picks.one_of(("1", "2", "x", "y", "u"))
                kind = picks.below(6)
                if kind == 0:
                    return f"(make a {picks.one_of('xyu')} {grown(left - 1)} {grown(left - 1)})"
                if kind == 1:
                    return f"(make b {grown(left - 1)})"
                if kind == 2:
                    return f"(make {picks.one_of('ce')} {grown(left - 1)} {grown(left - 1)})"
                if kind == 3:
                    return f"(make d {picks.one_of('xyu')})"
                return f"(hold {picks.one_of('xyu')} {grown(left - 1)} {grown(left - 1)})"
            body = grown(3)
            for word, row in zip("abcde", rows):
                self.assertTrue(is_harmless(row_of(row)))
                body = f"(maker {word} {row} {body})"
            work = fresh_work(read_tree(body))
            while outermost_uses(work):
                self.assertEqual(caught_names(work), [])
                work = made_once(work, picks.one_of(outermost_uses(work)))[1]
                looked += 1
            self.assertEqual(caught_names(work), [])
        self.assertGreater(looked, 100)

    def test_rows_that_cannot_stand_alone(self):
        for row in (((("any", "a"), ("any", "a")), ONE), ((), ("fill", "a")), ((("any", "a"),), ("given", ("fill", "a"), ONE)),
                    ((), ("use", "x")), (ONE,), ONE, None, [(), ONE], ((), ONE, ()), ((("any", "a"),) * 7, ONE)):
            for function in (is_simple, sites_of, is_harmless, harm_tree):
                self.assertRaises(InvalidRow, function, row)
            self.assertRaises(InvalidRow, is_harm_tree, row, None)

    def test_paths_in_the_form(self):
        for seed in range(40):
            row = grown_row(seed)
            paths = all_paths(("maker", ("m", ()), (row,), ONE))
            sites = sites_of(row)
            self.assertEqual(sites, sorted(set(sites)))
            for path, kind in sites:
                self.assertIn((0,) + path, paths)
                part = part_at(("maker", ("m", ()), (row,), ONE), (0,) + path)
                self.assertEqual(kind == "fill", part[0] == "fill")


if __name__ == "__main__":
    unittest.main()
