"""Points [9] and [48]: texts, written and read; of point [3], that the text of a tree is read as it."""

import unittest

from namesapart.errors import InvalidText, InvalidTree
from namesapart.texts import read_tree, tree_text
from namesapart.trees import is_tree
from tests.growing import A, B, C, E, broad, chain, grown_tree

TEXTS = (
    "0", "-5", "1000000000000", "-1000000000000", "x", "x@1", "x@1@40", "(given x x)", "(apply a b)", "(hold x a b)",
    "(+ a b)", "(- a b)", "(* a -1)", "(test a b c)", "(make m)", "(make m a b)", "(make m@2 -5)",
    "(maker m (row () 1) 2)", "(maker m (row (any:e name:n word:w word:w@3 5 -5) ?e) (row () 0) b)",
    "(maker m (row (name:n) (given ?n (hold ?n 1 (maker ?n (row () ?n) 2)))) 3)", A, B, C,
    "(maker m (row (any:e) (maker k (row (any:f) (+ ?e ?f)) 1)) 2)", "givens",
)


class Point9(unittest.TestCase):
    def test_texts(self):
        for text in TEXTS:
            self.assertEqual(tree_text(read_tree(text)), text)

    def test_trees(self):
        x, one = ("x", ()), ("amount", 1)
        self.assertEqual(read_tree("x"), ("use", x))
        self.assertEqual(read_tree("(given x 1)"), ("given", x, one))
        self.assertEqual(read_tree("(apply x 1)"), ("apply", ("use", x), one))
        self.assertEqual(read_tree("(hold x 1 x)"), ("hold", x, one, ("use", x)))
        self.assertEqual(read_tree("(* 1 x)"), ("reckon", "*", one, ("use", x)))
        self.assertEqual(read_tree("(test 1 x 1)"), ("test", one, ("use", x), one))
        self.assertEqual(read_tree("(make x@1@3 1)"), ("make", ("x", (1, 3)), (one,)))
        pattern = (("any", "e"), ("name", "n"), ("word", ("w", (2,))), ("amount", -7))
        self.assertEqual(read_tree("(maker x (row (any:e name:n word:w@2 -7) (given ?n ?e)) 1)"),
                         ("maker", x, ((pattern, ("given", ("fill", "n"), ("fill", "e"))),), one))

    def test_blanks(self):
        told = read_tree("(maker m (row (any:e 5) ?e) (make m x 5))")
        for text in ("(maker m(row(any:e 5)?e)(make m x 5))", " ( maker m ( row ( any:e 5 ) ?e ) ( make m x 5 ) ) ",
                     "\n(maker\nm\n\n(row (any:e\n5) ?e)\n(make m x   5)\n)\n"):
            self.assertEqual(read_tree(text), told)
        self.assertEqual(read_tree("\n x \n"), ("use", ("x", ())))
        self.assertEqual(read_tree("(maker m(row()1)2)"), read_tree("(maker m (row () 1) 2)"))

    def test_read_as_written(self):
        for seed in range(150):
            tree = grown_tree(seed, with_marks=seed % 2 == 0)
            self.assertEqual(read_tree(tree_text(tree)), tree)
        for tree in (broad(1000), chain(60)):
            self.assertEqual(read_tree(tree_text(tree)), tree)

    def test_unlike_trees_have_unlike_texts(self):
        trees = {repr(grown_tree(seed)) for seed in range(100)}
        texts = {tree_text(grown_tree(seed)) for seed in range(100)}
        self.assertEqual(len(trees), len(texts))


class Point48(unittest.TestCase):
    def check(self, error, texts):
        for text in texts:
            with self.assertRaises(error, msg=text):
                read_tree(text)

    def test_no_texts(self):
        self.check(InvalidText, (
            "", " ", "\n", "(", ")", "()", "(()", "x y", "1 2", "(+ 1 2) 3", "(+ 1 2))", "((+ 1 2)", "X", "x1", "1x",
            "x-", "x_y", "@1", "x@", "x@@1", "x@1@", "x @1", "x@ 1", "+1", "01", "-0", "-", "--1", "1.0", "00", "-01",
            "+", "*", "?", "??x", "?x@1", "?1", "? x", "(x)", "(x y)", "(1)", "(foo 1)", "(+a b)", "(+ 1)", "(+ 1 2 3)",
            "(/ 1 2)", "(apply 1)", "(apply 1 2 3)", "(test 1 2)", "(test 1 2 3 4)", "(given x)", "(given 1 x)",
            "(given x 1 2)", "(given (x) 1)", "(hold x 1)", "(hold x 1 2 3)", "(hold 1 2 3)", "(hold)", "(given)",
            "(make)", "(make 1)", "(make (m))", "(make m (x))", "(maker m 1)", "(maker)", "(maker m (row () 1))",
            "(maker m (row () 1) 2 3)", "(maker m 1 (row () 1) 2)", "(maker m (row 1) 2)", "(maker m (row ()) 2)",
            "(maker m (row () 1 2) 3)", "(maker m (row x 1) 2)", "(maker m (row (x) 1) 2)", "(maker m ((any:e) 1) 2)",
            "(maker m (row (any:) 1) 2)", "(maker m (row (any:e@1) 1) 2)", "(maker m (row (any:?e) 1) 2)",
            "(maker m (row (any e) 1) 2)", "(maker m (row (any : e) 1) 2)", "(maker m (row (word:5) 1) 2)",
            "(maker m (row (word:) 1) 2)", "(maker m (row (use:x) 1) 2)", "(maker m (row ((any:e)) 1) 2)",
            "(maker m (row (01) 1) 2)", "(row () 1)", "(row (any:e) ?e)", "(amount 1)", "(use x)", "(fill x)",
            "(reckon + 1 2)", "(any:e)", "(5 5)", "any:e", "[+ 1 2]", "(+ 1 , 2)", "(+ (row () 1) 1)", "(+ () 1)",
            "(make (+ 1 2))", "(make ())", "(given (make m) 1)", "(hold (+ 1 2) 1 2)",
            "(maker (make m) (row () 1) 2)", "(maker m (row ((+ 1 2)) 1) 2)", "GIVEN", "(Given x 1)", "x\\n", "\"x\"", "(+ 1 2)x y"))

    def test_fills_for_other_names_are_no_texts(self):
        self.check(InvalidText, ("(make ?n)", "(maker m (row (name:n) (make ?n)) 1)",
                                 "(maker m (row (name:n) (maker k (row (word:?n) 1) 2)) 1)"))

    def test_no_strings(self):
        for value in (None, 1, True, ("x",), ["x"], ("amount", 1), ()):
            self.assertRaises(InvalidText, read_tree, value)

    def test_broken_rules(self):
        self.check(InvalidTree, (
            "abcdefg", "given", "any", "(given hold 1)", "(hold abcdefg 1 2)", "(make row)", "(make abcdefg)",
            "(maker make (row () 1) 2)", "x@0", "x@41", "x@2@1", "x@1@1", "x@-1", "given@1", "1000000000001",
            "-1000000000001", "9" * 300, "-" + "9" * 3000, "x@" + "9" * 3000, "?x", "(given ?x 1)", "(hold ?x 1 2)",
            "(maker ?m (row () 1) 2)", "(make m 1 2 3 4 5 6 7)", "(maker m (row (1 2 3 4 5 6 7) 1) 2)",
            "(maker m (row (any:e any:e) 1) 2)", "(maker m (row (any:given) 1) 2)", "(maker m (row (any:abcdefg) 1) 2)",
            "(maker m (row (word:given) 1) 2)", "(maker m (row (any:e) (given ?e 1)) 2)", "(maker m (row () ?e) 2)",
            "(maker m (row (any:e) 1) ?e)", "(maker m (row (1000000000001) 1) 2)",
            "(maker m (row (any:e) (maker k (row (any:e) 1) 2)) 3)", "z" * 4000,
            "(maker m " + "(row () 1) " * 5 + "2)"))

    def test_bounds(self):
        self.assertEqual(read_tree("(maker m " + "(row () 1) " * 4 + "2)")[2], (((), ("amount", 1)),) * 4)
        self.assertEqual(len(read_tree("(make m 1 2 3 4 5 6)")[2]), 6)
        self.assertEqual(read_tree("x" + "".join([f"@{mark}" for mark in range(1, 41)]))[1][1], tuple(range(1, 41)))
        self.assertEqual(read_tree("(given x " * 59 + "1" + ")" * 59), chain(60))
        self.check(InvalidTree, ("(given x " * 60 + "1" + ")" * 60,))
        text = tree_text(broad(1000))
        self.assertTrue(is_tree(read_tree(text)))
        self.check(InvalidTree, (f"(given x {text})",))

    def test_open_brackets(self):
        self.check(InvalidText, ("(" * 200, "()" + "(" * 200, "()" * 9 + "(" * 200, "(" * 200 + ")" * 199, "(" * 200 + ")" * 201, "()" * 1000,
                                 ")" * 10 + "(" * 200, "(" * 200 + ")" + "(", "(" * 200 + ")" * 200))
        self.check(InvalidTree, ("(" * 201, "(" * 201 + ")" * 201, ")" * 10 + "(" * 201, "x y" + "(" * 201,
                                 "(" * 200 + ")" + "((", "%(" * 201, "(" * 201 + "?" + ")" * 300))
        self.check(InvalidTree, ("(given x " * 200 + "1" + ")" * 200,))

    def test_long_texts(self):
        self.check(InvalidText, ("x " * 2000, "1" + "x" * 3999, "(" + "1 " * 1999))


class LargerTexts(unittest.TestCase):
    def test_makers_within_forms(self):
        tree = read_tree(E)
        self.assertEqual(read_tree(tree_text(tree)), tree)
        inner = tree[3][2][0][1]
        self.assertEqual(inner[2][0][0], (("any", "f"), ("word", ("w", ()))))


if __name__ == "__main__":
    unittest.main()
