"""Points [4] to [6] and [47]: words, names, amounts, trees, their sizes, parts and paths."""

import unittest

from namesapart.errors import InvalidPath
from namesapart.trees import (
    all_paths, is_plain, is_tree, part_at, parts_of, tree_depth, tree_size, words_in,
)
from tests.growing import A, B, C, ODD_VALUES, broad, chain, grown_tree, nested, read_tree, shared_twice

NO_WORDS = ("given", "apply", "hold", "test", "maker", "row", "make", "any", "name", "word", "fill")
ONE = ("amount", 1)


def use(word, marks=()):
    return ("use", (word, marks))


def maker(rows, body=ONE, name=("m", ())):
    return ("maker", name, rows, body)


def row_of(form, *pattern):
    return (tuple(pattern), form)


class Point4(unittest.TestCase):
    def test_words(self):
        for word in ("a", "z", "abcdef", "zzzzzz", "amount", "use", "reckon", "each", "fold", "rest", "given"[:4]):
            self.assertTrue(is_tree(use(word)), word)

    def test_no_words(self):
        for word in ("", "abcdefg", "A", "aB", "a1", "a b", " a", "a\n", "a_", "-", "@") + NO_WORDS:
            self.assertFalse(is_tree(use(word)), word)

    def test_words_that_only_look_like_barred_ones(self):
        for word in ("givens", "holds", "rows", "makes", "anys", "names", "words", "fills", "tests", "makers", "tes"):
            self.assertTrue(is_tree(use(word)), word)

    def test_barred_words_as_holes_and_binders(self):
        for word in NO_WORDS + ("", "abcdefg"):
            self.assertFalse(is_tree(("given", (word, ()), ONE)))
            self.assertFalse(is_tree(("hold", (word, ()), ONE, ONE)))
            self.assertFalse(is_tree(("make", (word, ()), ())))
            self.assertFalse(is_tree(maker((row_of(ONE, ("any", word)),))))
            self.assertFalse(is_tree(maker((row_of(ONE, ("name", word)),))))
            self.assertFalse(is_tree(maker((row_of(ONE, ("word", (word, ()))),))))

    def test_marks(self):
        for marks in ((), (1,), (40,), (1, 40), tuple(range(1, 41))):
            self.assertTrue(is_tree(use("x", marks)), marks)
        for marks in ((0,), (41,), (-1,), (1, 1), (2, 1), (True,), (1, True), [1], None, 1, ("1",), tuple(range(41))):
            self.assertFalse(is_tree(use("x", marks)), marks)

    def test_amounts(self):
        for amount in (0, 1, -1, 10 ** 12, -10 ** 12):
            self.assertTrue(is_tree(("amount", amount)))
        for amount in (10 ** 12 + 1, -10 ** 12 - 1, 10 ** 119, True, False, None, "1", (1,)):
            self.assertFalse(is_tree(("amount", amount)))
            self.assertFalse(is_tree(maker((row_of(ONE, ("amount", amount)),))))


class Point5(unittest.TestCase):
    def test_each_kind(self):
        x = ("x", ())
        for tree in (ONE, use("x"), ("given", x, ONE), ("apply", ONE, ONE), ("hold", x, ONE, ONE),
                     ("reckon", "+", ONE, ONE), ("reckon", "-", ONE, ONE), ("reckon", "*", ONE, ONE),
                     ("test", ONE, ONE, ONE), maker((row_of(ONE),)), ("make", x, ())):
            self.assertTrue(is_tree(tree), tree)
            self.assertFalse(is_tree(tree + (ONE,)), tree)
            self.assertFalse(is_tree(tree[:-1]), tree)
            self.assertFalse(is_tree(list(tree)), tree)
            self.assertFalse(is_tree((tree[0].upper(),) + tree[1:]), tree)

    def test_signs(self):
        for sign in ("/", "", "++", "+ ", None, 1, ("+",), ["+"]):
            self.assertFalse(is_tree(("reckon", sign, ONE, ONE)), sign)

    def test_odd_parts(self):
        for value in ODD_VALUES + (nested(300),):
            if value in (0, 1):
                continue
            self.assertFalse(is_tree(("apply", ONE, value)))
            self.assertFalse(is_tree(("given", value, ONE)))
            self.assertFalse(is_tree(("given", ("x", ()), value)))
            self.assertFalse(is_tree(("make", ("m", ()), (value,))))
            self.assertFalse(is_tree(maker((row_of(value),))))
            self.assertFalse(is_tree(maker((row_of(ONE, value),))) and value != ONE)
            self.assertFalse(is_tree(maker(value)))
            self.assertFalse(is_tree(maker((value,))))

    def test_numbers_of_rows(self):
        for many in range(1, 5):
            self.assertTrue(is_tree(maker((row_of(ONE),) * many)))
        for many in (0, 5):
            self.assertFalse(is_tree(maker((row_of(ONE),) * many)))
        for good in range(2):
            rows = (row_of(ONE),) * good + (row_of(ONE, ("any", "any")),) + (row_of(ONE),) * (1 - good)
            self.assertFalse(is_tree(maker(rows)), "each pattern is looked at")
            self.assertFalse(is_tree(maker((row_of(ONE),) * good + (row_of(("use", "x")),) + (row_of(ONE),) * (1 - good))))
        self.assertFalse(is_tree(maker([row_of(ONE)])))
        self.assertFalse(is_tree(maker((list(row_of(ONE)),))))
        self.assertFalse(is_tree(maker((row_of(ONE) + (ONE,),))))

    def test_numbers_of_pieces(self):
        holes = tuple([("any", "h" + letter) for letter in "abcdefg"])
        self.assertTrue(is_tree(("make", ("m", ()), (ONE,) * 6)))
        self.assertFalse(is_tree(("make", ("m", ()), (ONE,) * 7)))
        self.assertFalse(is_tree(("make", ("m", ()), [ONE])))
        self.assertTrue(is_tree(maker((row_of(ONE, *holes[:6]),))))
        self.assertFalse(is_tree(maker((row_of(ONE, *holes),))))
        self.assertTrue(is_tree(maker((row_of(ONE, *[("amount", 1)] * 6),))))
        self.assertFalse(is_tree(maker((row_of(ONE, *[("amount", 1)] * 7),))))

    def test_pieces(self):
        for piece in (("any", "x"), ("name", "x"), ("word", ("x", (1,))), ("amount", -5)):
            self.assertTrue(is_tree(maker((row_of(ONE, piece),))), piece)
        for piece in (("any", ("x", ())), ("name", ("x", ())), ("word", "x"), ("word", ("fill", "x")), ("any", 1),
                      ("use", "x"), ("any",), ("any", "x", "y"), ["any", "x"], ("each", (("any", "x"),)), "any"):
            self.assertFalse(is_tree(maker((row_of(ONE, piece),))), piece)

    def test_unlike_holes(self):
        for one in ("any", "name"):
            for other in ("any", "name"):
                self.assertFalse(is_tree(maker((row_of(ONE, (one, "x"), (other, "x")),))))
        self.assertTrue(is_tree(maker((row_of(ONE, ("any", "x")), row_of(ONE, ("any", "x"))))))
        self.assertTrue(is_tree(maker((row_of(ONE, ("word", ("x", ())), ("word", ("x", ())), ("any", "x")),))))

    def test_fills_stand_in_rows_alone(self):
        for tree in (("fill", "x"), ("given", ("fill", "x"), ONE), ("apply", ("fill", "x"), ONE)):
            self.assertFalse(is_tree(tree))
            self.assertFalse(is_tree(maker((row_of(ONE, ("name", "x")),), tree)), "the body is no form")
            self.assertFalse(is_tree(maker((row_of(tree, ("name", "y")),))), "no hole of this row")
            self.assertFalse(is_tree(maker((row_of(ONE, ("name", "x")), row_of(tree)))), "the hole of another row")
            self.assertTrue(is_tree(maker((row_of(tree, ("name", "x")),))))

    def test_fills_for_names(self):
        fill, name = ("fill", "x"), ("name", "x")
        for form in (("given", fill, ONE), ("hold", fill, ONE, ONE), maker((row_of(ONE),), ONE, fill)):
            self.assertTrue(is_tree(maker((row_of(form, name),))), form)
            self.assertFalse(is_tree(maker((row_of(form, ("any", "x")),))), form)
            self.assertFalse(is_tree(maker((row_of(form, ("word", ("x", ()))),))), form)
        for form in (("use", fill), ("make", fill, ()), maker((row_of(ONE, ("word", fill)),))):
            self.assertFalse(is_tree(maker((row_of(form, name),))), form)
        for kind in ("any", "name"):
            self.assertTrue(is_tree(maker((row_of(("apply", fill, fill), (kind, "x")),))))
        self.assertFalse(is_tree(maker((row_of(("fill", "x", "x"), name),))))
        self.assertFalse(is_tree(maker((row_of(("fill", ["x"]), name),))))

    def test_makers_within_forms(self):
        def told(outer, inner, form):
            return maker((row_of(maker((row_of(form, inner),)), outer),))
        both = ("apply", ("fill", "x"), ("fill", "y"))
        self.assertTrue(is_tree(told(("any", "x"), ("any", "y"), both)))
        self.assertTrue(is_tree(told(("name", "x"), ("any", "y"), ("given", ("fill", "x"), both))))
        for one in ("any", "name"):
            for other in ("any", "name"):
                self.assertFalse(is_tree(told((one, "x"), (other, "x"), ONE)))
        deep = maker((row_of(told(("any", "y"), ("any", "x"), ONE), ("any", "x")),))
        self.assertFalse(is_tree(deep))
        # A body is not within a form, and neither is one row within another one.
        self.assertTrue(is_tree(maker((row_of(ONE, ("any", "x")),), maker((row_of(ONE, ("any", "x")),)))))
        twice = ("apply", maker((row_of(ONE, ("any", "y")),)), maker((row_of(ONE, ("any", "y")),)))
        self.assertTrue(is_tree(maker((row_of(twice, ("any", "x")),))))
        # The holes of the inner pattern do not reach behind the inner maker's rows.
        beside = maker((row_of(ONE, ("any", "y")),), ("fill", "y"))
        self.assertFalse(is_tree(maker((row_of(beside, ("any", "x")),))))


class Point6(unittest.TestCase):
    def test_depth(self):
        self.assertEqual(tree_depth(chain(60)), 60)
        self.assertTrue(is_tree(chain(60)))
        self.assertFalse(is_tree(chain(61)))
        self.assertTrue(is_tree(maker((row_of(chain(59)),))))
        self.assertFalse(is_tree(maker((row_of(chain(60)),))))
        self.assertFalse(is_tree(("make", ("m", ()), (chain(60),))))

    def test_size(self):
        self.assertEqual(tree_size(broad(1000)), 1000)
        self.assertTrue(is_tree(broad(1000)))
        self.assertFalse(is_tree(broad(1001)))
        self.assertTrue(is_tree(maker((row_of(broad(400), ("amount", 1), ("any", "x")),), broad(597))))
        self.assertFalse(is_tree(maker((row_of(broad(400), ("amount", 1), ("any", "x")),), broad(598))))

    def test_what_is_counted(self):
        self.assertEqual(tree_size(read_tree(A)), 7)
        self.assertEqual(tree_size(read_tree(B)), 13)
        self.assertEqual(tree_size(read_tree("(maker m (row (any:a word:x 5) ?a) (row () 1) (make m 1 x 5))")), 10)
        self.assertEqual(tree_depth(read_tree("1")), 1)
        self.assertEqual(tree_depth(read_tree("(maker m (row () (+ 1 (+ 1 1))) 1)")), 4)
        self.assertEqual(tree_depth(read_tree("(make m (given x 1) 1)")), 3)

    def test_shared_trees_end_soon(self):
        self.assertTrue(is_tree(shared_twice(8)))
        self.assertFalse(is_tree(shared_twice(9)))
        self.assertFalse(is_tree(shared_twice(59)))
        self.assertFalse(is_tree(shared_twice(250)))

    def test_parts(self):
        tree = read_tree("(maker m (row () 1) (row (any:a) ?a) (hold x 2 (given y (test 1 2 (make m 3 4)))))")
        self.assertEqual(parts_of(tree), [("amount", 1), ("fill", "a"), tree[3]])
        self.assertEqual(parts_of(tree[3]), [("amount", 2), tree[3][3]])
        self.assertEqual(parts_of(tree[3][3]), [tree[3][3][2]])
        self.assertEqual(parts_of(read_tree("(test 1 2 3)")), [("amount", 1), ("amount", 2), ("amount", 3)])
        self.assertEqual(parts_of(read_tree("(- 1 2)")), [("amount", 1), ("amount", 2)])
        self.assertEqual(parts_of(read_tree("(apply 1 2)")), [("amount", 1), ("amount", 2)])
        self.assertEqual(parts_of(read_tree("(make m 3 4)")), [("amount", 3), ("amount", 4)])
        self.assertEqual(parts_of(read_tree("x")) + parts_of(read_tree("1")) + parts_of(read_tree("(make m)")), [])

    def test_part_at(self):
        tree = read_tree(C)
        self.assertEqual(part_at(tree, ()), tree)
        self.assertEqual(part_at(tree, (0, 1)), ("fill", "b"))
        self.assertEqual(part_at(tree, (1, 2, 0)), use("y"))
        for path in ((2,), (-1,), (0, 2), (0, 0, 0), (True,), (0, False), ("0",), [0], (None,), 0, (0,) * 1000):
            self.assertRaises(InvalidPath, part_at, tree, path)

    def test_all_paths(self):
        self.assertEqual(all_paths(read_tree(A)), [(), (0,), (1,), (1, 0), (1, 1), (1, 1, 0), (1, 1, 1)])
        for seed in range(60):
            tree = grown_tree(seed)
            paths = all_paths(tree)
            self.assertEqual(paths, sorted(set(paths)))
            self.assertEqual(tree_depth(tree), 1 + max(len(path) for path in paths))
            pieces = sum(len(pattern) for path in paths for part in [part_at(tree, path)]
                         if part[0] == "maker" for pattern, _ in part[2])
            self.assertEqual(tree_size(tree), len(paths) + pieces)

    def test_words_in(self):
        self.assertEqual(words_in(read_tree(B)), ["swap", "t"])
        self.assertEqual(words_in(read_tree("(maker m (row (word:w any:e) (given z (make k))) (+ u 1))")),
                         ["k", "m", "u", "w", "z"])
        self.assertEqual(words_in(read_tree("(hold x@1 1 x@2)")), ["x"])
        self.assertEqual(words_in(read_tree("(maker m (row (name:n) (given ?n ?n)) 1)")), ["m"])
        self.assertEqual(words_in(ONE), [])


class PlainTrees(unittest.TestCase):
    def test_plain(self):
        for text in ("1", "x", "(+ 1 x)", "(hold x (given y x) (test 1 x (apply x x)))"):
            self.assertTrue(is_plain(read_tree(text)), text)

    def test_not_plain(self):
        for text in (A, "(make m)", "x@1", "(given x@1 1)", "(maker m (row () 1) 1)", "(hold x 1 (+ 1 (make x)))"):
            self.assertFalse(is_plain(read_tree(text)), text)
        self.assertFalse(is_plain(("fill", "x")))
        self.assertFalse(is_plain(chain(61)))


if __name__ == "__main__":
    unittest.main()
