"""Points [13] to [16] and [53] to [55]: lots, manners, lot works, and ends by lots and by makings."""

import unittest

from namesapart.errors import InvalidLotWork, InvalidLotted, InvalidManner, InvalidName, InvalidPath, InvalidTree
from namesapart.lotplain import agreeing_manners, lot_end, making_end
from namesapart.lots import is_lotted, lot_meaning, lots_off
from namesapart.lotworks import begun_lots, is_lot_work, lot_once, lot_row, made_by_lots
from namesapart.makings import made_by, outermost_uses
from namesapart.shapes import all_names, placed_parts
from namesapart.texts import tree_text
from namesapart.trees import is_tree
from tests.growing import A, B, C, D, E, F, Picks, broad, chain, grown_tree, read_tree

ALL = (True, True, True)
MANNERS = [(binds, brings, hands) for binds in (False, True) for brings in (False, True) for hands in (False, True)]
ONE = ("amount", 1)


def use(lot, word="x"):
    return ("use", (word, lot))


def held(lot, body, word="x"):
    return ("hold", (word, lot), ONE, body)


class Point13(unittest.TestCase):
    def test_lots(self):
        for lot in ((), (1,), (10 ** 6,), (1, 10 ** 6), tuple(range(1, 401)), tuple(range(10 ** 6 - 399, 10 ** 6 + 1))):
            self.assertTrue(is_lotted(use(lot)))
            self.assertTrue(is_lotted(held(lot, ONE)))
        for lot in ((0,), (10 ** 6 + 1,), (2, 1), (1, 1), (True,), [1], None, tuple(range(1, 402)), ("1",), 1, (-1,)):
            self.assertFalse(is_lotted(use(lot)))
            self.assertRaises(InvalidLotted, lots_off, use(lot))

    def test_told_like_trees(self):
        self.assertTrue(is_lotted(chain(60)))
        self.assertFalse(is_lotted(chain(61)))
        self.assertTrue(is_lotted(broad(1000)))
        self.assertFalse(is_lotted(broad(1001)))
        self.assertFalse(is_lotted(("fill", "x")))
        row = ((("word", ("w", (99,))), ("name", "n")), ("given", ("fill", "n"), use((500,))))
        self.assertTrue(is_lotted(("maker", ("m", (7, 8)), (row,), ONE)))
        self.assertFalse(is_tree(("maker", ("m", (7, 8)), (row,), ONE)))

    def meant(self, tree, path, lot, word="x"):
        return lot_meaning(tree, path, (word, lot))

    def test_all_marks_among_its_own(self):
        tree = held((1, 2), held((3,), use(())))
        self.assertEqual(self.meant(tree, (1, 1), (1, 2)), ("means", ()))
        self.assertEqual(self.meant(tree, (1, 1), (1, 2, 4)), ("means", ()))
        self.assertEqual(self.meant(tree, (1, 1), (3,)), ("means", (1,)))
        for lot in ((), (1,), (2,), (1, 4)):
            self.assertEqual(self.meant(tree, (1, 1), lot), ("nothing",))
        self.assertEqual(self.meant(tree, (1, 1), (1, 2, 3)), ("doubtful", ((), (1,))))

    def test_word_and_place(self):
        tree = held((), held((), use(()), "y"))
        self.assertEqual(self.meant(tree, (1, 1), ()), ("means", ()))
        self.assertEqual(self.meant(tree, (1, 1), (), "y"), ("means", (1,)))
        self.assertEqual(self.meant(tree, (1, 1), (), "z"), ("nothing",))
        self.assertEqual(self.meant(tree, (1, 0), (), "y"), ("nothing",), "a hold binds in its body alone")
        self.assertEqual(self.meant(tree, (0,), ()), ("nothing",))
        self.assertEqual(self.meant(tree, (), ()), ("nothing",))
        rows = ("maker", ("x", (5,)), (((), use(())), ((), use(()))), use(()))
        for path in ((0,), (1,), (2,)):
            self.assertEqual(self.meant(rows, path, (5, 6)), ("means", ()))
        self.assertEqual(self.meant(("given", ("x", (5,)), ONE), (0,), (5,)), ("means", ()))

    def test_nearest_of_the_same_lot(self):
        tree = held((1,), held((1,), held((1,), use(()))))
        self.assertEqual(self.meant(tree, (1, 1, 1), (1,)), ("means", (1, 1)))
        tree = held((1,), held((2,), held((1,), use(()))))
        self.assertEqual(self.meant(tree, (1, 1, 1), (1, 2)), ("doubtful", ((1,), (1, 1))))

    def test_the_one_that_has_all_marks_of_the_others(self):
        tree = held((1, 2), held((2,), held((1,), held((), use(())))))
        self.assertEqual(self.meant(tree, (1, 1, 1, 1), (1, 2, 3)), ("means", ()))
        self.assertEqual(self.meant(tree, (1, 1, 1, 1), (1, 3)), ("means", (1, 1)))
        self.assertEqual(self.meant(tree, (1, 1, 1, 1), (3,)), ("means", (1, 1, 1)))

    def test_doubtful_between_those_not_within_another_one(self):
        tree = held((1, 2), held((2,), held((3,), held((), held((2, 4), use(()))))))
        self.assertEqual(self.meant(tree, (1, 1, 1, 1, 1), (1, 2, 3)), ("doubtful", ((), (1, 1))))
        self.assertEqual(self.meant(tree, (1, 1, 1, 1, 1), (1, 2, 3, 4)), ("doubtful", ((), (1, 1), (1, 1, 1, 1))))
        self.assertEqual(self.meant(tree, (1, 1, 1, 1, 1), (2, 3)), ("doubtful", ((1,), (1, 1))))

    def test_errors(self):
        tree = held((1,), use((1,)))
        for path in ((2,), (1, 0), (True,), [1], None):
            self.assertRaises(InvalidPath, lot_meaning, tree, path, None)
        for name in (None, ("x",), ("x", (0,)), ("given", ()), ("x", (10 ** 6 + 1,)), ("x", [1]), ["x", ()],
                     ("x", tuple(range(1, 402)))):
            self.assertRaises(InvalidName, lot_meaning, tree, (1,), name)
        self.assertRaises(InvalidLotted, lot_meaning, ("use", "x"), None, None)
        self.assertEqual(lot_meaning(tree, (1,), ("x", tuple(range(1, 401)))), ("means", ()))

    def test_lots_off(self):
        for seed in range(40):
            bare = grown_tree(seed)
            self.assertEqual(lots_off(begun_lots(bare, ALL)[1]), bare)
        row = ((("word", ("w", (99,))), ("name", "n")), ("given", ("fill", "n"), use((500,))))
        bare = ((("word", ("w", ())), ("name", "n")), ("given", ("fill", "n"), use(())))
        self.assertEqual(lots_off(("maker", ("m", (7, 8)), (row,), ONE)), ("maker", ("m", ()), (bare,), ONE))


class Point14(unittest.TestCase):
    def test_lot_works(self):
        tree = use((1, 3))
        for value in ((ALL, tree, 0, 3), (ALL, tree, 40, 10 ** 6), ((False, False, False), tree, 1, 3), (ALL, ONE, 0, 0)):
            self.assertTrue(is_lot_work(value), value)
        for value in ((ALL, tree, 0, 2), (ALL, tree, 41, 3), (ALL, tree, -1, 3), (ALL, tree, 0, 10 ** 6 + 1),
                      (ALL, ONE, 0, -1), (ALL, ONE, True, 1), (ALL, ONE, 1, True), ((1, 1, 1), tree, 0, 3), (ALL[:2], tree, 0, 3),
                      (ALL + (True,), tree, 0, 3), (list(ALL), tree, 0, 3), [ALL, tree, 0, 3], (ALL, tree, 0),
                      (ALL, use((0,)), 0, 3), (None, tree, 0, 3), (ALL, tree, None, 3), (ALL, tree, 0, 3, 0)):
            self.assertFalse(is_lot_work(value), value)

    def test_no_mark_is_greater_than_the_last_one(self):
        row = ((("word", ("w", (9,))),), ONE)
        for tree in (("maker", ("m", ()), (row,), ONE), held((9,), ONE), ("make", ("m", (9,)), ()),
                     ("maker", ("m", ()), (((), use((2, 9))),), ONE)):
            self.assertTrue(is_lot_work((ALL, tree, 0, 9)))
            self.assertFalse(is_lot_work((ALL, tree, 0, 8)))

    def test_begun(self):
        tree = read_tree("(hold x x (given y (maker m (row (word:x any:e) (hold z ?e x)) (make m (given x x)))))")
        manner, lotted, makings, marks = begun_lots(tree, ALL)
        self.assertEqual((manner, makings, marks), (ALL, 0, 4))
        self.assertEqual(lotted[1:3], (("x", (1,)), use(())))
        given = lotted[3]
        self.assertEqual(given[1], ("y", (1, 2)))
        maker = given[2]
        self.assertEqual(maker[1], ("m", (1, 2, 3)))
        self.assertEqual(maker[2], (((("word", ("x", (1, 2, 3))), ("any", "e")),
                                     ("hold", ("z", (1, 2, 3)), ("fill", "e"), use((1, 2, 3)))),))
        self.assertEqual(maker[3], ("make", ("m", (1, 2, 3)), (("given", ("x", (1, 2, 3, 4)), use((1, 2, 3, 4))),)))

    def test_ascending_order_of_paths(self):
        tree = read_tree("(apply (given x (given y x)) (hold z (given v v) z))")
        lotted = begun_lots(tree, ALL)[1]
        self.assertEqual([name[1] for name in all_names(lotted)], [(1,), (1, 2), (1, 2), (3,), (4,), (4,), (3,)])

    def test_without_binding(self):
        for seed in range(20):
            bare = grown_tree(seed)
            for manner in MANNERS[:4]:
                self.assertEqual(begun_lots(bare, manner), (manner, bare, 0, 0))

    def test_begun_lots_of_bare_trees_alone(self):
        for text in ("x@1", "(maker m (row (word:x@1) 1) 2)", "(maker m (row () (given x@2 1)) 2)", "(make m@1)"):
            self.assertRaises(InvalidTree, begun_lots, read_tree(text), ALL)
        for manner in ((1, 1, 1), (True, True), None, [True, True, True], (True, True, None), ALL + (True,)):
            self.assertRaises(InvalidManner, begun_lots, ONE, manner)


def lot_made(text, manner=ALL, path=None):
    """The part that comes of the first use, how many makings and marks there are behind, or the stop."""
    work = begun_lots(read_tree(text), manner)
    path = outermost_uses((read_tree(text), ()))[0] if path is None else path
    result = lot_once(work, path)
    if result[0] == "stopped":
        assert lot_row(work, path) is None
        return result
    part = [part for at, part in placed_parts(result[1][1], True) if at == path][0]
    return (part, result[1][2:])


class Point15(unittest.TestCase):
    def test_marks_of_each_kind(self):
        text = "(maker m (row (any:e name:n) (hold x ?e (given ?n (+ x y)))) (make m z v))"
        for (binds, brings, hands) in MANNERS:
            first = (1,) if binds else ()
            marks = 1 if binds else 0
            brought, handed = first, first
            if brings:
                marks += 1
                brought = brought + (marks,)
            if hands:
                marks += 1
                handed = handed + (marks,)
            outer, inner = ((marks + 1,), (marks + 2,)) if binds else ((), ())
            marks += 2 if binds else 0
            expected = ("hold", ("x", brought + outer), use(handed, "z"), ("given", ("v", handed + outer + inner), (
                "reckon", "+", use(brought + outer + inner), use(brought + outer + inner, "y"))))
            self.assertEqual(lot_made(text, (binds, brings, hands)), (expected, (1, marks)))

    def test_marks_are_taken_without_names(self):
        self.assertEqual(lot_made("(maker m (row () 1) (make m))"), (ONE, (1, 3)))
        self.assertEqual(lot_made("(maker m (row () 1) (make m))", (False, True, False)), (ONE, (1, 1)))
        self.assertEqual(lot_made("(maker m (row () 1) (make m))", (False, False, False)), (ONE, (1, 0)))

    def test_binders_in_pieces_and_in_inner_rows_put_no_marks(self):
        text = "(maker m (row (any:e) (maker k (row () (given x x)) ?e)) (make m (given y y)))"
        part, behind = lot_made(text)
        self.assertEqual(behind, (1, 5))
        self.assertEqual(part[1], ("k", (1, 3, 5)))
        self.assertEqual(part[2], (((), ("given", ("x", (1, 3, 5)), use((1, 3, 5)))),))
        self.assertEqual(part[3], ("given", ("y", (1, 2, 4, 5)), use((1, 2, 4, 5), "y")))

    def test_names_in_inner_patterns(self):
        text = "(maker m (row () (maker k (row (word:w) 1) 2)) (make m))"
        self.assertEqual(lot_made(text)[0][2], (((("word", ("w", (1, 2, 4))),), ONE),))

    def test_handed_patterns(self):
        text = "(maker m (row (any:e) ?e) (make m (maker k (row (word:w) 1) 2)))"
        self.assertEqual(lot_made(text), (("maker", ("k", (1, 2, 4)), (((("word", ("w", (1, 2, 4))),), ONE),), ("amount", 2)),
                                          (1, 4)))

    def test_stops(self):
        for text, reason in (("(make m)", "maker"), ("(hold m 1 (make m))", "maker"),
                             ("(maker m (row () 1) (make k))", "maker"), ("(maker m (row () 1) (make m 1))", "row"),
                             ("(maker m (row (5) 1) (make m 6))", "row")):
            self.assertEqual(lot_made(text)[2], reason, text)

    def test_doubtful_makers(self):
        def work_of(lot):
            inner = ("maker", ("m", (2,)), (((), ONE),), ("make", ("m", lot), ()))
            return (ALL, ("maker", ("m", (1,)), (((), ONE),), inner), 0, 3)
        self.assertEqual(lot_once(work_of((1, 2)), (1, 1)), ("stopped", (1, 1), "maker"))
        self.assertEqual(lot_once(work_of((3,)), (1, 1)), ("stopped", (1, 1), "maker"))
        self.assertEqual(lot_once(work_of((1, 3)), (1, 1))[0], "made")
        self.assertIsNone(lot_row(work_of((1, 2)), (1, 1)))
        self.assertEqual(lot_row(work_of((2,)), (1, 1)), 0)

    def word_row(self, told, lot, around=(), word="w"):
        """The row that takes a use of a name with a lot, the first row having the word with the lot told."""
        rows = (((("word", ("w", told)),), ONE), ((("any", "e"),), ONE))
        tree = ("make", ("m", ()), (use(lot, word),))
        for bound in around[1]:
            tree = held(bound, tree, "w")
        tree = ("maker", ("m", ()), rows, tree)
        for bound in around[0]:
            tree = held(bound, tree, "w")
        path = (1,) * len(around[0]) + (2,) + (1,) * len(around[1])
        return lot_row((ALL, tree, 0, 99), path)

    def test_words_by_their_meaning(self):
        self.assertEqual(self.word_row((), (), ((), ())), 0, "both nothing, the same word")
        self.assertEqual(self.word_row((7,), (8,), ((), ())), 0)
        self.assertEqual(self.word_row((), (), ((), ()), "v"), 1)
        self.assertEqual(self.word_row((1,), (1, 2), (((1,),), ())), 0, "the same binder")
        self.assertEqual(self.word_row((1,), (1, 2), (((1,),), ((2,),))), 1, "doubtful")
        self.assertEqual(self.word_row((1,), (2,), (((1,),), ((2,),))), 1, "another binder")
        self.assertEqual(self.word_row((1,), (3,), (((1,),), ())), 1, "a binder and nothing")
        self.assertEqual(self.word_row((3,), (1,), (((1,),), ())), 1)
        self.assertEqual(self.word_row((1, 2), (1, 2), (((1,), (2,)), ())), 1, "both doubtful between the same")

    def test_forty_makings(self):
        tree = begun_lots(read_tree("(maker m (row () 1) (make m))"), ALL)[1]
        self.assertEqual(lot_once((ALL, tree, 39, 1), (1,))[1][2:], (40, 3))
        self.assertEqual(lot_once((ALL, tree, 40, 1), (1,)), ("stopped", (1,), "great"))
        self.assertIsNone(lot_row((ALL, tree, 40, 1), (1,)))
        self.assertEqual(lot_row((ALL, tree, 39, 1), (1,)), 0)
        wrong = begun_lots(read_tree("(maker m (row () 1) (make m 1))"), ALL)[1]
        self.assertEqual(lot_once((ALL, wrong, 40, 1), (1,)), ("stopped", (1,), "row"))
        self.assertEqual(made_by_lots(read_tree("(maker m (row () (make m)) (make m))"), ALL, ()),
                         ("stopped", (1,), "great"))

    def test_what_would_be_no_lot_work(self):
        tree = read_tree("(maker m (row (any:e) (given x ?e)) (make m y))")
        self.assertEqual(lot_once((ALL, tree, 0, 10 ** 6 - 3), (1,))[1][3], 10 ** 6)
        for marks in (10 ** 6 - 2, 10 ** 6 - 1, 10 ** 6):
            self.assertEqual(lot_once((ALL, tree, 0, marks), (1,)), ("stopped", (1,), "great"))
        plain = read_tree("(maker m (row () 1) (make m))")
        self.assertEqual(lot_once((ALL, plain, 0, 10 ** 6 - 2), (1,))[1][3], 10 ** 6)
        self.assertEqual(lot_once((ALL, plain, 0, 10 ** 6 - 1), (1,)), ("stopped", (1,), "great"), "no name has the mark")

    def test_great_lots(self):
        def work_of(many):
            piece = use(tuple(range(1, many + 1)))
            row = ((("any", "e"),), ("given", ("x", ()), ("fill", "e")))
            return (ALL, ("maker", ("m", ()), (row,), ("make", ("m", ()), (piece,))), 0, 500)
        self.assertEqual(lot_once(work_of(398), (1,))[0], "made")
        for many in (399, 400):
            self.assertEqual(lot_once(work_of(many), (1,)), ("stopped", (1,), "great"))

    def test_great_trees(self):
        def tree_of(size):
            row = ((("any", "e"),), ("apply", ("fill", "e"), ("fill", "e")))
            return ("maker", ("m", ()), (row,), ("make", ("m", ()), (broad(size),)))
        self.assertEqual(made_by_lots(tree_of(497), ALL, ())[0], "made")
        self.assertEqual(made_by_lots(tree_of(498), ALL, ()), ("stopped", (1,), "great"))

    def test_paths_and_lot_works(self):
        work = begun_lots(read_tree(A), ALL)
        for path in ((), (1,), (1, 1), (9,), None, (True,)):
            self.assertRaises(InvalidPath, lot_row, work, path)
            self.assertRaises(InvalidPath, lot_once, work, path)
        self.assertRaises(InvalidLotWork, lot_once, work[:3], None)
        self.assertRaises(InvalidLotWork, lot_row, (ALL, read_tree("x"), 0, -1), None)

    def test_orders(self):
        tree = read_tree("(maker m (row () x) (+ (make m) (make m)))")
        for order, lots in (((), [(1, 2), (1, 4)]), (((1, 1),), [(1, 4), (1, 2)]), (((7,), (1, 1), (1, 1)), [(1, 4), (1, 2)])):
            made = made_by_lots(tree, ALL, order)[1]
            self.assertEqual([name[1] for name in all_names(made[1])][2:], lots)


# A maker whose form has a maker, made around one another: many makings, and names that other manners mix up.
G = """(hold x 6 (maker m (row (name:n any:e)
    (maker k (row (any:u) (hold x ?u (* (hold x 2 (- x ?e)) ?u))) (hold ?n 3 (make k ?e))))
    (hold x 5 (make m x (make m a x)))))"""
G_TREE = ("hold", ("x", ()), ("amount", 6), ("maker", ("m", ()), (((("name", "n"), ("any", "e")), ("maker", ("k", ()), (
    ((("any", "u"),), ("hold", ("x", ()), ("fill", "u"), ("reckon", "*", ("hold", ("x", ()), ("amount", 2),
     ("reckon", "-", ("use", ("x", ())), ("fill", "e"))), ("fill", "u")))),), ("hold", ("fill", "n"), ("amount", 3),
     ("make", ("k", ()), (("fill", "e"),))))),), ("hold", ("x", ()), ("amount", 5), ("make", ("m", ()), (
         ("use", ("x", ())), ("make", ("m", ()), (("use", ("a", ())), ("use", ("x", ())))))))))


def end_of_g(*words):
    """The plain tree of an end of G, its uses that are told otherwise by some manners having these words."""
    text = """(hold a 6 (hold b 5 (hold c 3 (hold d (hold e 3 (hold f c (* (hold g 2 (- g {})) {})))
        (* (hold h 2 (- h (hold i 3 (hold j {} (* (hold k 2 (- k {})) {})))))
        (hold l 3 (hold m {} (* (hold n 2 (- n {})) {}))))))))"""
    return ("plain", read_tree(text.format(*words)))


class EndsOfG(unittest.TestCase):
    def test_text(self):
        self.assertEqual(read_tree(G), G_TREE)

    def test_ends_by_all_manners_and_by_makings(self):
        told = {
            (False, False, False): end_of_g("g", "f", "h", "k", "j", "d", "n", "m"),
            (False, False, True): end_of_g(*"cccccccc"),
            (False, True, False): end_of_g(*"cccccccc"),
            (False, True, True): end_of_g(*"cccccccc"),
            (True, False, False): ("doubtful", (1, 1, 1, 1, 1, 0, 1, 1, 1, 0, 1, 1)),
            (True, False, True): ("doubtful", (1, 1, 1, 1, 1, 0, 1, 1, 1, 0, 1, 1)),
            (True, True, False): end_of_g(*"ccbbbccc"),
            (True, True, True): end_of_g(*"ccbbbccc"),
        }
        tree = read_tree(G)
        for manner in MANNERS:
            self.assertEqual(lot_end(tree, manner, ()), told[manner], manner)
        self.assertEqual(making_end(tree, ()), told[ALL])
        self.assertEqual(agreeing_manners(tree), [(True, True, False), ALL])
        self.assertEqual(made_by_lots(tree, ALL, ())[1][2:], (8, 35))


class Point16(unittest.TestCase):
    def test_kinds_of_ends(self):
        for text, end in (("(make m)", ("stopped", (), "maker")), ("(maker m (row () 1) (+ 1 m))", ("wanting", (1, 1))),
                          ("(maker m (row () 1) (make m))", ("plain", ONE)),
                          ("(+ y (given x x))", ("plain", read_tree("(+ y (given a a))")))):
            self.assertEqual(making_end(read_tree(text), ()), end)
            for manner in MANNERS:
                self.assertEqual(lot_end(read_tree(text), manner, ()), end, manner)

    def test_first_path_of_wanting_and_doubtful(self):
        text = "(maker swap (row (any:a any:b) (hold t ?a {})) (hold t 5 (make swap 2 t)))"
        manner = (True, False, True)
        self.assertEqual(lot_end(read_tree(text.replace("{}", "(+ 1 swap)")), manner, ()), ("wanting", (1, 1, 1, 1)))
        self.assertEqual(lot_end(read_tree(text.replace("{}", "(+ swap t)")), manner, ()), ("wanting", (1, 1, 1, 0)))
        doubtful = lot_end(read_tree(B), manner, ())
        self.assertEqual(doubtful, ("doubtful", (1, 1, 1, 0)))
        self.assertEqual(lot_end(read_tree(text.replace("{}", "(+ ?b swap)").replace("(make swap 2 t)", "(+ swap t)")),
                                 manner, ()), ("wanting", (1, 1, 0)))
        self.assertEqual(lot_end(read_tree(text.replace("{}", "(- ?b (+ t swap))")), manner, ()), doubtful)

    def test_orders(self):
        tree = read_tree("(maker m (row () 1) (+ (make m 2) (make k)))")
        for manner in MANNERS:
            self.assertEqual(lot_end(tree, manner, ()), ("stopped", (1, 0), "row"))
            self.assertEqual(lot_end(tree, manner, ((1, 1),)), ("stopped", (1, 1), "maker"))
        self.assertEqual(making_end(tree, ()), ("stopped", (1, 0), "row"))
        self.assertEqual(making_end(tree, ((1, 1),)), ("stopped", (1, 1), "maker"))

    def test_all_three_come_to_the_same_as_makings(self):
        kinds = {}
        for seed in range(300):
            tree = grown_tree(seed)
            picks = Picks(seed)
            paths = [path for path, part in placed_parts(tree, True)]
            order = tuple([picks.one_of(paths) for _ in range(picks.below(5))])
            for told in ((), order):
                end = making_end(tree, told)
                kinds[end[0]] = kinds.get(end[0], 0) + 1
                self.assertEqual(lot_end(tree, ALL, told), end, tree_text(tree))
        self.assertGreater(kinds["plain"], 200)
        self.assertGreater(kinds["stopped"], 20)

    def test_no_name_is_doubtful_by_all_three(self):
        many = 0
        for seed in range(120):
            work = begun_lots(grown_tree(seed), ALL)
            for _ in range(5):
                for path, part in placed_parts(work[1], False):
                    if part[0] in ("use", "make"):
                        self.assertNotEqual(lot_meaning(work[1], path, part[1])[0], "doubtful")
                        many += 1
                uses = outermost_uses((lots_off(work[1]), ()))
                result = lot_once(work, uses[-1]) if uses else ("stopped",)
                if result[0] == "stopped":
                    break
                work = result[1]
        self.assertGreater(many, 500)

    def test_each_other_manner_has_an_unlike_tree(self):
        unlike = {manner: [] for manner in MANNERS}
        for text in (A, B, D):
            tree = read_tree(text)
            agreeing = agreeing_manners(tree)
            self.assertEqual(agreeing, sorted(agreeing))
            for manner in MANNERS:
                same = lot_end(tree, manner, ()) == making_end(tree, ())
                self.assertIs(manner in agreeing, same)
                if not same:
                    unlike[manner].append(text)
        for manner in MANNERS:
            expected = [text for text, does in zip((A, B, D), manner) if not does]
            self.assertEqual(unlike[manner], expected)

    def test_examples(self):
        for text in (C, E, F):
            self.assertIn(ALL, agreeing_manners(read_tree(text)))
        self.assertEqual(agreeing_manners(read_tree(C)), MANNERS)
        self.assertEqual(lot_end(read_tree(D), (True, True, False), ()), ("plain", read_tree("(hold a 0 (hold b 1 b))")))
        self.assertEqual(lot_end(read_tree(A), (False, True, True), ()), ("plain", read_tree("(hold a 1 (hold b 2 b))")))

    def test_made_by_lots_and_by_makings_have_the_same_bare_tree(self):
        for seed in range(60):
            tree = grown_tree(seed)
            made, lotted = made_by((tree, ()), ()), made_by_lots(tree, ALL, ())
            self.assertEqual(made[0], lotted[0])
            if made[0] == "made":
                self.assertEqual(lots_off(made[1][0]), lots_off(lotted[1][1]))


if __name__ == "__main__":
    unittest.main()
