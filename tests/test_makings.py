"""Points [10] and [50]: making the uses of makers."""

import unittest

from namesapart.errors import InvalidOrder, InvalidPath, InvalidWork
from namesapart.makings import made_by, made_once, outermost_uses, row_for
from namesapart.meanings import is_work
from namesapart.texts import tree_text
from namesapart.trees import all_paths, part_at
from tests.growing import A, B, C, D, broad, chain, grown_tree, read_tree

ONE = ("amount", 1)


def fresh(text):
    return (read_tree(text), ())


def first(work):
    return outermost_uses(work)[0]


def made_text(text):
    """The text of what the first outermost use becomes, and the number of the row."""
    work = fresh(text)
    path = first(work)
    result = made_once(work, path)
    if result[0] == "stopped":
        assert row_for(work, path) is None
        return result[2]
    return (row_for(work, path), tree_text(part_at(result[1][0], path)))


class Outermost(unittest.TestCase):
    def test_outermost_uses(self):
        for text, paths in (("1", []), ("(make m)", [()]), ("(make m (make k))", [()]),
                            ("(maker m (row () (make m)) 1)", []), ("(maker m (row () (make m)) (make m))", [(1,)]),
                            ("(+ (make m) (hold x (make k) (test 1 2 (make j (make i)))))",
                             [(0,), (1, 0), (1, 1, 2)]),
                            ("(make m (maker k (row () 1) (make k)))", [()])):
            self.assertEqual(outermost_uses(fresh(text)), paths, text)

    def test_ascending(self):
        for seed in range(60):
            tree = grown_tree(seed)
            paths = outermost_uses((tree, ()))
            self.assertEqual(paths, sorted(paths))
            for path in all_paths(tree):
                if part_at(tree, path)[0] == "make":
                    ahead = [part_at(tree, path[:at]) for at in range(len(path))]
                    outside = all([part[0] != "make" and (part[0] != "maker" or path[at] == len(part[2]))
                                   for at, part in enumerate(ahead)])
                    self.assertEqual(path in paths, outside)


class Fits(unittest.TestCase):
    def test_any(self):
        for piece in ("1", "x", "(+ 1 x)", "(given y y)", "(make k 1)", "(maker k (row (any:f) ?f) 2)"):
            self.assertEqual(made_text(f"(maker m (row (any:e) ?e) (make m {piece}))"), (0, piece))

    def test_name(self):
        text = "(maker m (row (name:n) 1) (row (any:e) 2) (make m {}))"
        self.assertEqual(made_text(text.replace("{}", "x")), (0, "1"))
        self.assertEqual(made_text(text.replace("{}", "x@3")), (0, "1"))
        for piece in ("5", "(+ x x)", "(make x)", "(given x x)"):
            self.assertEqual(made_text(text.replace("{}", piece)), (1, "2"))

    def test_amount(self):
        text = "(maker m (row (5) 1) (row (any:e) 2) (make m {}))"
        self.assertEqual(made_text(text.replace("{}", "5")), (0, "1"))
        for piece in ("-5", "50", "x", "(+ 5 0)"):
            self.assertEqual(made_text(text.replace("{}", piece)), (1, "2"))

    def test_word_by_its_meaning(self):
        rows = "(row (word:w) 1) (row (any:e) 2)"
        for text, index in ((f"(maker m {rows} (make m w))", 0), (f"(maker m {rows} (make m v))", 1),
                            (f"(maker m {rows} (make m 5))", 1), (f"(maker m {rows} (make m (make w)))", 1),
                            (f"(maker m {rows} (hold w 1 (make m w)))", 1),
                            (f"(hold w 1 (maker m {rows} (make m w)))", 0),
                            (f"(hold w 1 (maker m {rows} (hold w 2 (make m w))))", 1),
                            (f"(maker m {rows} (make m w@3))", 0),
                            ("(maker m (row (word:m) 1) (row (any:e) 2) (make m m))", 0),
                            ("(hold w@1 1 (maker m (row (word:w@1) 1) (row (any:e) 2) (make m w)))", 1)):
            self.assertEqual(made_text(text)[0], index, text)

    def test_word_brought_along(self):
        inner = "(maker in (row (word:w) 1) (row (any:e) 2) (hold w 5 (make in w)))"
        work = made_by(fresh(f"(maker out (row (any:e) {inner.replace('any:e', 'any:f')}) (make out 1))"), ())[1]
        self.assertEqual(part_at(work[0], (1, 2, 1)), ("amount", 2))

    def test_as_many_pieces(self):
        text = "(maker m (row () 0) (row (any:e) 1) (row (any:e any:f) 2) (make m{}))"
        for many in range(3):
            self.assertEqual(made_text(text.replace("{}", " 7" * many))[0], many)
        self.assertEqual(made_text(text.replace("{}", " 7 7 7")), "row")

    def test_rows_in_order(self):
        self.assertEqual(made_text("(maker m (row (any:e) 1) (row (5) 2) (make m 5))"), (0, "1"))
        self.assertEqual(made_text("(maker m (row (5) 2) (row (any:e) 1) (make m 5))"), (0, "2"))
        self.assertEqual(made_text("(maker m (row (5) 2) (row (any:e 5) 3) (row (any:e) 1) (make m 6))"), (2, "1"))


class Brought(unittest.TestCase):
    def test_marks(self):
        text = "(maker m (row (any:e) (hold x y (given z (+ (make k x) ?e)))) (make m x))"
        self.assertEqual(made_text(text), (0, "(hold x@1 y@1 (given z@1 (+ (make k@1 x@1) x)))"))

    def test_marks_behind_others(self):
        tree = read_tree("(hold x 1 (maker m (row () (+ x@1 x)) (+ 1 (make m))))")
        work = (tree, ((1,), (1,)))
        made = made_once(work, (1, 1, 1))[1]
        self.assertEqual(tree_text(part_at(made[0], (1, 1, 1))), "(+ x@1@3 x@3)")
        self.assertEqual(made[1], ((1,), (1,), (1,)))

    def test_marks_in_inner_makers(self):
        text = "(maker m (row () (maker k (row (word:w any:f 5) (hold v ?f w)) (make k w 1 5))) (make m))"
        self.assertEqual(made_text(text),
                         (0, "(maker k@1 (row (word:w@1 any:f 5) (hold v@1 ?f w@1)) (make k@1 w@1 1 5))"))

    def test_fills(self):
        text = "(maker m (row (name:n any:e) (hold ?n ?e (given ?n (maker ?n (row () ?n) (+ ?n ?e))))) (make m x@2 (- x 1)))"
        self.assertEqual(made_text(text), (0, "(hold x@2 (- x 1) (given x@2 (maker x@2 (row () x@2) (+ x@2 (- x 1)))))"))

    def test_fills_in_inner_rows(self):
        text = "(maker m (row (any:e name:n) (maker k (row (any:f name:o) (hold ?n ?e (given ?o ?f))) 1)) (make m x y))"
        self.assertEqual(made_text(text), (0, "(maker k@1 (row (any:f name:o) (hold y x (given ?o ?f))) 1)"))

    def test_a_form_that_is_a_fill(self):
        self.assertEqual(made_text("(maker m (row (any:e) ?e) (make m (+ x 1)))"), (0, "(+ x 1)"))

    def test_the_maker_stays(self):
        work = made_once(fresh(B), (1, 1))[1]
        self.assertEqual(work[1], ((),))
        self.assertEqual(tree_text(work[0]), "(maker swap (row (any:a any:b) (hold t ?a (- ?b t))) "
                                             "(hold t 5 (hold t@1 2 (- t t@1))))")

    def test_makers_that_pieces_bring(self):
        text = "(maker m (row (any:e) (hold x 1 ?e)) (make m (maker k (row () x) (make k))))"
        work = made_by(fresh(text), ())[1]
        self.assertEqual(work[1], ((), (1, 1)))
        self.assertEqual(tree_text(part_at(work[0], (1,))), "(hold x@1 1 (maker k (row () x) x@2))")


class Stops(unittest.TestCase):
    def test_maker(self):
        for text in ("(make m)", "(hold m 1 (make m))", "(given m (make m))", "(maker m (row () 1) (make k))",
                     "(maker m (row () 1) (make m@1))", "(maker m (row () 1) (hold m 2 (make m)))"):
            self.assertEqual(made_text(text), "maker", text)

    def test_row(self):
        for text in ("(maker m (row () 1) (make m 2))", "(maker m (row (5) 1) (make m 6))"):
            self.assertEqual(made_text(text), "row")

    def test_paths_of_stops(self):
        self.assertEqual(made_by(fresh("(+ 1 (make z))"), ()), ("stopped", (1,), "maker"))
        self.assertEqual(made_once(fresh("(+ (make y) (make z))"), (1,)), ("stopped", (1,), "maker"))
        self.assertEqual(made_by(fresh("(maker m (row () 1) (+ (make m) (make m 2)))"), ()),
                         ("stopped", (1, 1), "row"))

    def test_forty_makings(self):
        def tree_of(body):
            return ("maker", ("m", ()), (((), ONE),), body)
        work = (tree_of(("make", ("m", ()), ())), ((),) * 39)
        made = made_once(work, (1,))
        self.assertEqual(made, ("made", (tree_of(ONE), ((),) * 40)))
        full = (work[0], ((),) * 40)
        self.assertEqual(made_once(full, (1,)), ("stopped", (1,), "great"))
        self.assertIsNone(row_for(full, (1,)))
        self.assertEqual(row_for(work, (1,)), 0)
        # "maker" and "row" come ahead of "great".
        self.assertEqual(made_once((tree_of(("make", ("m", ()), (ONE,))), ((),) * 40), (1,)), ("stopped", (1,), "row"))
        self.assertEqual(made_once((tree_of(("make", ("k", ()), ())), ((),) * 40), (1,)), ("stopped", (1,), "maker"))

    def test_a_forty_first_making(self):
        result = made_by(fresh("(maker m (row () (make m)) (make m))"), ())
        self.assertEqual(result, ("stopped", (1,), "great"))
        row = "(+ (make m) " * 39 + "(make m)" + ")" * 39
        result = made_by(fresh(f"(maker m (row () 1) {row})"), ())
        self.assertEqual(result[0], "made")
        self.assertEqual(len(result[1][1]), 40)
        result = made_by(fresh(f"(maker m (row () 1) (+ {row} (make m)))"), ())
        self.assertEqual(result, ("stopped", (1, 1), "great"))

    def test_too_great_a_tree(self):
        def work_of(size):
            use = ("make", ("m", ()), (broad(size),))
            return (("maker", ("m", ()), (((("any", "e"),), ("apply", ("fill", "e"), ("fill", "e"))),), use), ())
        # The maker has a size of 5, and what comes in the place of the use has one more than the piece twice.
        self.assertEqual(made_once(work_of(497), (1,))[0], "made")
        self.assertEqual(made_once(work_of(498), (1,)), ("stopped", (1,), "great"))
        self.assertIsNone(row_for(work_of(498), (1,)))

    def test_too_deep_a_tree(self):
        def work_of(depth):
            use = ("make", ("m", ()), (chain(depth),))
            form = ("given", ("x", ()), ("given", ("y", ()), ("fill", "e")))
            return (("maker", ("m", ()), (((("any", "e"),), form),), use), ())
        self.assertEqual(made_once(work_of(57), (1,))[0], "made")
        self.assertEqual(made_once(work_of(58), (1,)), ("stopped", (1,), "great"))

    def test_holes_of_a_pattern_around(self):
        text = "(maker m (row (any:e) (maker k (row (any:f) ?e) 1)) (make m (maker j (row (any:{}) 2) 3)))"
        self.assertEqual(made_text(text.replace("{}", "f")), "great")
        self.assertEqual(made_text(text.replace("{}", "e"))[0], 0)

    def test_marks_that_would_not_ascend(self):
        for mark in (1, 2, 40):
            self.assertEqual(made_text(f"(maker m (row () x@{mark}) (make m))"), "great")
        self.assertEqual(made_text("(maker m (row (any:e) ?e) (make m x@40))"), (0, "x@40"))


class Point50(unittest.TestCase):
    def test_paths(self):
        work = fresh("(maker m (row () (make m)) (+ (make m (make m)) 1))")
        for path in ((), (0,), (1,), (1, 1), (1, 0, 0), (1, 2), (2,), "x", None, [1, 0], (1, False)):
            self.assertRaises(InvalidPath, row_for, work, path)
            self.assertRaises(InvalidPath, made_once, work, path)

    def test_nothing_is_made_of_what_is_no_work(self):
        self.assertRaises(InvalidWork, made_by, (read_tree(A), ((1, 1),)), None)

    def test_orders(self):
        work = fresh(A)
        for order in ((), ((1, 1, 1),), ((10 ** 100,),) * 60, ((0,) * 1000,), ((),)):
            self.assertEqual(made_by(work, order)[0], "made")
        for order in (((),) * 61, ((-1,),), ((True,),), (1,), ([1],), [()], None, "x", (("1",),), ((None,),)):
            self.assertRaises(InvalidOrder, made_by, work, order)

    def test_the_order_is_kept(self):
        work = fresh("(maker m (row () 1) (+ (make m) (+ (make m) (make m))))")
        for order, last in (((), (1, 1, 1)), (((1, 1, 1),), (1, 1, 0)), (((1, 1, 0), (1, 1, 1)), (1, 0)),
                            (((9,), (1, 1, 0), (), (1, 1, 0), (1, 1, 1)), (1, 0))):
            # What is left for the end is told by the first tree that has just one use.
            step = work
            for path in order:
                if path in outermost_uses(step):
                    step = made_once(step, path)[1]
            while len(outermost_uses(step)) > 1:
                step = made_once(step, outermost_uses(step)[0])[1]
            self.assertEqual(outermost_uses(step), [last])
            self.assertEqual(made_by(work, order)[1][1], ((),) * 3)

    def test_the_order_by_marks(self):
        work = fresh("(maker m (row () x) (+ (make m) (+ (make m) (make m))))")
        for order, text in (((), "(+ x@1 (+ x@2 x@3))"), (((1, 1, 1),), "(+ x@2 (+ x@3 x@1))"),
                            (((1, 1, 0), (1, 1, 0), (7, 7), (1, 1, 1)), "(+ x@3 (+ x@1 x@2))"),
                            (((1, 1, 1), (1, 0), (1, 1, 0)), "(+ x@2 (+ x@3 x@1))")):
            self.assertEqual(tree_text(part_at(made_by(work, order)[1][0], (1,))), text)

    def test_paths_at_which_a_use_comes_to_stand(self):
        work = fresh("(maker m (row () (+ (make k) 1)) (maker k (row () x) (+ (make m) (make k))))")
        for order, text in ((((1, 1, 0, 0),), "(+ (+ x@2 1) x@3)"), (((1, 1, 0), (1, 1, 1)), "stopped")):
            result = made_by(work, order)
            self.assertEqual(result, ("stopped", (1, 1, 0, 0), "maker"), text)

    def test_first_stop_by_order(self):
        work = fresh("(maker m (row () 1) (+ (make m 2) (make k)))")
        self.assertEqual(made_by(work, ()), ("stopped", (1, 0), "row"))
        self.assertEqual(made_by(work, ((1, 1),)), ("stopped", (1, 1), "maker"))

    def test_from_a_work_on(self):
        work = fresh(C)
        made = made_once(work, first(work))[1]
        self.assertEqual(made_by(made, ()), ("made", made))
        self.assertEqual(made_by(work, ()), ("made", made))

    def test_works_stay_works(self):
        for text in (A, B, C, D):
            self.assertTrue(is_work(made_by(fresh(text), ())[1]))
        for seed in range(80):
            result = made_by((grown_tree(seed), ()), ())
            if result[0] == "made":
                self.assertTrue(is_work(result[1]))
                self.assertEqual(outermost_uses(result[1]), [])


if __name__ == "__main__":
    unittest.main()
