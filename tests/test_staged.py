"""Points [26] to [29] and [62] to [64]: staged programs, how they are worked out, and making by tables."""

import unittest

from namesapart.codemakers import is_table, made_with
from namesapart.errors import InvalidNumber, InvalidProgram, InvalidStaged, InvalidTable, InvalidTree
from namesapart.plain import with_plain_names
from namesapart.running import run_of
from namesapart.stageruns import run_staged, shown_stages
from namesapart.stagetrees import erased_tree, is_calm, is_staged, stage_faults, staged_of, stages_in
from namesapart.texts import tree_text
from namesapart.trees import is_plain, tree_size
from namesapart.words import first_words
from tests.growing import ODD_VALUES, Picks, broad, chain, nested, read_tree, shared_twice
from tests.staging import grown_staged, model_end, reworded

ONE, TWO = ("amount", 1), ("amount", 2)


def use(word):
    return ("use", word)


def given(word, body):
    return ("given", word, body)


def plus(one, two):
    return ("reckon", "+", one, two)


def wide(size):
    """A staged program of this odd size, not deep."""
    if size == 1:
        return ONE
    left = (size - 1) // 2
    left -= 1 - left % 2
    return plus(wide(left), wide(size - 1 - left))


def long(depth, end=ONE):
    """A staged program of functions within one another, so deep ahead of its end."""
    for _ in range(depth):
        end = given("x", end)
    return end


class Point26(unittest.TestCase):
    def test_told_like_plain_trees(self):
        for tree in (ONE, given("x", use("x")), ("apply", ONE, TWO), ("hold", "x", ONE, use("x")), ("reckon", "*", ONE, TWO),
                     ("test", ONE, TWO, ONE), ("code", ONE), ("run", ONE), ("lift", ONE), ("code", ("put", ONE))):
            self.assertTrue(is_staged(tree), tree)
        for tree in (use("x"), use(("x", ())), given(("x", ()), ONE), given("given", ONE), given("x", use("y")), ("make", "m", ()),
                     ("fill", "x"), ("maker", "m", (((), ONE),), ONE), ("code",), ("code", ONE, ONE), ("run", 1), ("lift", None),
                     ("hold", "x", use("x"), ONE), ("reckon", "/", ONE, ONE), ["code", ONE], ("amount", 10 ** 12 + 1),
                     ("amount", True), ("apply", ONE), ("given", ["x"], ONE), ("use", ["x"]), ("quote", ONE)):
            self.assertIs(is_staged(tree), False, tree)
        for value in ODD_VALUES + (nested(300), shared_twice(250)):
            self.assertIs(is_staged(value), False)

    def test_sizes_and_depths(self):
        self.assertTrue(is_staged(wide(199)))
        self.assertTrue(is_staged(("lift", wide(199))))
        self.assertFalse(is_staged(wide(201)))
        self.assertTrue(is_staged(long(39)))
        self.assertFalse(is_staged(long(40)))
        self.assertFalse(is_staged(shared_twice(38)))

    def test_stages(self):
        tree = ONE
        for at in range(4):
            self.assertTrue(is_staged(tree))
            self.assertEqual(stages_in(tree)[-1], ((0,) * at, at))
            tree = ("code", tree)
        self.assertFalse(is_staged(tree), "a place of stage 4")
        self.assertFalse(is_staged(("put", ONE)), "a place of stage -1")
        self.assertFalse(is_staged(("code", ("put", ("put", ONE)))))
        self.assertTrue(is_staged(("code", ("code", ("put", ("put", ONE))))))
        self.assertTrue(is_staged(("code", ("code", ("code", ("put", ("code", ONE)))))))
        self.assertFalse(is_staged(("code", ("code", ("code", ("put", ("code", ("code", ONE))))))))

    def test_stages_in(self):
        tree = ("hold", "x", ("code", ("put", ("run", ONE))), ("test", ("lift", use("x")), ("code", ("code", TWO)), ONE))
        self.assertEqual(stages_in(tree), [((), 0), ((0,), 0), ((0, 0), 1), ((0, 0, 0), 0), ((0, 0, 0, 0), 0), ((1,), 0),
                                           ((1, 0), 0), ((1, 0, 0), 0), ((1, 1), 0), ((1, 1, 0), 1), ((1, 1, 0, 0), 2), ((1, 2), 0)])

    def test_stage_faults(self):
        self.assertEqual(stage_faults(given("x", plus(use("x"), ("code", use("x"))))), [((0, 1, 0), "x", 1, 0)])
        self.assertEqual(stage_faults(("code", given("x", ("put", use("x"))))), [((0, 0, 0), "x", 0, 1)])
        nearest = given("x", ("code", given("x", plus(use("x"), ("put", use("x"))))))
        self.assertEqual(stage_faults(nearest), [((0, 0, 0, 1, 0), "x", 0, 1)])
        self.assertEqual(stage_faults(("hold", "x", ONE, ("hold", "x", use("x"), ("code", use("x"))))), [((1, 1, 0), "x", 1, 0)])
        self.assertEqual(stage_faults(("code", ("hold", "y", ("put", ("code", ONE)), use("y")))), [])

    def test_calm(self):
        for tree, calm in ((("run", ("code", ONE)), True), (("code", given("x", ("put", ("code", use("x"))))), True),
                           (("code", given("x", ("put", ("run", ("code", ONE))))), False),
                           (("run", ("code", given("x", ("put", ("code", ONE))))), False),
                           (("run", ("code", ("hold", "x", ("put", ("code", ONE)), use("x")))), True),
                           (given("x", ("run", ("code", use("x")))), True),
                           (("run", ("code", ("code", given("x", ("put", ONE))))), False),
                           (("code", given("x", ("put", ("code", given("x", ("put", ("run", use("x")))))))), False)):
            self.assertTrue(is_staged(tree))
            self.assertIs(is_calm(tree), calm, tree)

    def test_erased(self):
        tree = ("code", given("q", ("put", ("lift", ("run", plus(("code", use("q")), ONE))))))
        self.assertEqual(erased_tree(tree), read_tree("(given a (+ a 1))"))
        for seed in range(80):
            erased = erased_tree(grown_staged(seed, 5))
            self.assertTrue(is_plain(erased))
            self.assertEqual(with_plain_names(erased), erased)

    def test_staged_of(self):
        self.assertEqual(staged_of(read_tree("(given x (hold y 1 (test x y (- x y))))")),
                         given("x", ("hold", "y", ONE, ("test", use("x"), use("y"), ("reckon", "-", use("x"), use("y"))))))
        self.assertEqual(staged_of(broad(200)), staged_of(broad(200)))
        self.assertTrue(is_staged(staged_of(chain(40))))
        for tree in (broad(201), chain(41), ("use", "x"), None, ("fill", "x"), ("code", ONE)):
            self.assertRaises(InvalidTree, staged_of, tree)
        for text in ("(+ x 1)", "(make m)", "(maker m (row () 1) 2)", "(given x@1 1)"):
            self.assertRaises(InvalidProgram, staged_of, read_tree(text))
        for seed in range(20):
            erased = erased_tree(grown_staged(seed))
            self.assertEqual(erased_tree(staged_of(erased)), erased)

    def test_errors(self):
        for function in (stages_in, stage_faults, is_calm, erased_tree):
            for value in ODD_VALUES + (use("x"), ("put", ONE), wide(201), nested(300)):
                self.assertRaises(InvalidStaged, function, value)


class Points27And28(unittest.TestCase):
    def end(self, tree, most=400):
        self.assertTrue(is_staged(tree), tree)
        return run_staged(tree, most)

    def test_core(self):
        for text in ("(apply (given x (* x x)) 7)", "(hold x 2 (+ x x))", "(test 0 1 2)", "(test 5 1 2)", "(given x x)",
                     "(apply 1 (+ 1 1))", "(+ (given x x) (apply 1 2))", "(test (given x x) 1 2)", "(* 1000001 1000000)",
                     "(hold x 1 (hold f (given y (+ x y)) (hold x 5 (apply f x))))", "(- 1 2)", "(* 1000000 1000000)"):
            program = read_tree(text)
            for most in (0, 1, 2, 400):
                self.assertEqual(run_staged(staged_of(program), most), run_of(program, most), (text, most))

    def test_left_to_right(self):
        stuck = ("test", given("x", ONE), ONE, ONE)
        self.assertEqual(self.end(("apply", ONE, stuck)), (("stuck", "test"), 0))
        self.assertEqual(self.end(plus(("lift", ONE), stuck)), (("stuck", "test"), 1))
        self.assertEqual(self.end(("code", plus(("put", ONE), ("put", stuck)))), (("stuck", "put"), 0))
        self.assertEqual(self.end(("code", plus(("put", ("code", ONE)), ("put", stuck)))), (("stuck", "test"), 1))
        self.assertEqual(self.end(("hold", "x", stuck, ("apply", ONE, ONE))), (("stuck", "test"), 0))

    def test_building(self):
        self.assertEqual(self.end(("code", plus(ONE, ("apply", ONE, TWO)))), (("code", plus(ONE, ("apply", ONE, TWO))), 0))
        self.assertEqual(self.end(("code", given("q", ("hold", "q", use("q"), use("q"))))),
                         (("code", given("a", ("hold", "b", use("a"), use("b")))), 0))
        self.assertEqual(self.end(("code", ("code", ("put", ("code", ("run", ONE)))))),
                         (("code", ("code", ("put", ("code", ("run", ONE))))), 0), "a put at stage 2 is built")
        self.assertEqual(self.end(("code", ("code", ("put", ("put", ("code", ("lift", ONE))))))),
                         (("code", ("code", ("put", ("lift", ONE)))), 1), "and one within it at stage 1 is worked out")

    def test_names_keep_their_binders(self):
        made = given("c", ("code", given("x", ("reckon", "-", ("put", use("c")), use("x")))))
        tree = ("code", given("x", ("put", ("apply", made, ("code", use("x"))))))
        self.assertEqual(self.end(tree), (("code", given("a", given("b", ("reckon", "-", use("a"), use("b"))))), 3))
        self.assertEqual(self.end(("apply", ("apply", ("run", tree), ("amount", 7)), TWO))[0], ("value", 5))
        twice = ("hold", "c", ("code", given("x", use("x"))), ("code", ("apply", ("put", use("c")), ("put", use("c")))))
        self.assertEqual(self.end(twice), (("code", ("apply", given("a", use("a")), given("b", use("b")))), 3))

    def test_functions_keep_values(self):
        tree = ("hold", "x", ONE, ("hold", "f", given("y", plus(use("x"), use("y"))), ("hold", "x", TWO, ("apply", use("f"), use("x")))))
        self.assertEqual(self.end(tree), (("value", 3), 5))

    def test_runs(self):
        self.assertEqual(self.end(("run", ("code", plus(ONE, TWO)))), (("value", 3), 2))
        self.assertEqual(self.end(("run", ("code", ("code", plus(ONE, TWO))))), (("code", plus(ONE, TWO)), 1))
        self.assertEqual(self.end(("run", ("run", ("code", ("code", plus(ONE, TWO)))))), (("value", 3), 3))
        self.assertEqual(self.end(("run", ONE)), (("stuck", "run"), 0))
        self.assertEqual(self.end(("run", given("x", ONE))), (("stuck", "run"), 0))
        inner = ("run", ("code", ("hold", "x", ONE, ("code", given("x", plus(use("x"), ("put", ("lift", TWO))))))))
        self.assertEqual(self.end(inner), (("code", given("a", plus(use("a"), TWO))), 4))

    def test_lifts_puts_and_tests(self):
        self.assertEqual(self.end(("lift", plus(ONE, ONE))), (("code", TWO), 2))
        self.assertEqual(self.end(("lift", given("x", ONE))), (("stuck", "lift"), 0))
        self.assertEqual(self.end(("lift", ("code", ONE))), (("stuck", "lift"), 0))
        self.assertEqual(self.end(("code", ("put", ONE))), (("stuck", "put"), 0))
        self.assertEqual(self.end(("code", ("put", given("x", ONE)))), (("stuck", "put"), 0))
        self.assertEqual(self.end(("test", ("code", ONE), ONE, ONE)), (("stuck", "test"), 0))
        self.assertEqual(self.end(plus(ONE, ("code", ONE))), (("stuck", "reckon"), 0))
        self.assertEqual(self.end(("apply", ("code", ONE), ONE)), (("stuck", "apply"), 0))

    def test_stage_ends(self):
        self.assertEqual(self.end(given("x", ("code", use("x")))), (("value", "given"), 0), "not worked out")
        self.assertEqual(self.end(("hold", "x", ONE, ("code", use("x")))), (("stage", "x"), 1))
        self.assertEqual(self.end(("code", given("y", ("put", use("y"))))), (("stage", "y"), 0))
        self.assertEqual(self.end(("code", given("y", ("code", use("y"))))), (("stage", "y"), 0))
        self.assertEqual(self.end(("hold", "x", ONE, ("test", ONE, TWO, ("code", use("x"))))), (("value", 2), 2))
        self.assertEqual(self.end(("hold", "x", ONE, ("run", ("code", use("x"))))), (("stage", "x"), 1))

    def test_wanting(self):
        tree = ("code", given("x", ("put", ("run", ("code", use("x"))))))
        self.assertEqual(self.end(tree), (("wanting", "x"), 1))
        built = ("code", given("x", ("put", ("run", ("code", ("code", ("put", use("x"))))))))
        self.assertEqual(self.end(built), (("wanting", "x"), 1))
        unused = ("code", given("x", ("put", ("run", ("code", ("test", ONE, ("code", TWO), use("x")))))))
        self.assertEqual(self.end(unused), (("code", given("a", TWO)), 3), "wanting just where it is worked out")
        of_word = ("code", given("q", ("put", ("run", ("code", given("x", use("q")))))))
        self.assertEqual(self.end(of_word), (("stuck", "put"), 1))

    def test_great(self):
        self.assertEqual(self.end(("reckon", "*", ("amount", 10 ** 12), TWO)), (("stuck", "great"), 0))

        def of_size(size):
            return ("hold", "c", ("code", wide(79)), ("code", plus(("put", use("c")), plus(("put", use("c")), plus(
                ("put", use("c")), plus(("put", use("c")), ("lift", wide(size - 321))))))))
        self.assertEqual(self.end(of_size(400))[0][0], "code")
        self.assertEqual(self.end(of_size(402)), (("stuck", "great"), 5))
        self.assertEqual(self.end(("hold", "c", of_size(402), ("test", ONE, ONE, ONE))), (("stuck", "great"), 5))

    def test_great_codes_to_the_last(self):
        def of_size(size):
            """The code of a sum of four codes of size 79, and of what is left, one less or more by a lift."""
            rest = size - 4 - 4 * 79
            last = wide(rest) if rest % 2 else ("lift", wide(rest - 1))
            return ("hold", "c", ("code", wide(79)), ("code", plus(("put", use("c")), plus(("put", use("c")), plus(
                ("put", use("c")), plus(("put", use("c")), last))))))
        for size, kind in ((399, "code"), (400, "code"), (401, "stuck")):
            self.assertEqual(self.end(of_size(size))[0][0], kind, size)

    def test_deep_codes(self):
        def of_depth(depth):
            return ("hold", "c", ("code", long(29)), ("code", long(depth - 30, ("put", use("c")))))
        self.assertEqual(self.end(of_depth(60))[0][0], "code")
        self.assertEqual(self.end(of_depth(61)), (("stuck", "great"), 2))
        self.assertFalse(is_staged(self.end(of_depth(60))[0][1]))

    def test_only_whole_codes_are_looked_at(self):
        big = ("hold", "c", ("code", wide(79)), ("code", ("apply", given("y", ONE), ("put", ("test", ONE, ("code", TWO), ("code", plus(
            plus(("put", use("c")), ("put", use("c"))), plus(("put", use("c")), plus(("put", use("c")), plus(
                ("put", use("c")), ("put", use("c"))))))))))))
        self.assertEqual(self.end(big)[0][0], "code", "the great one is not built")

    def test_steps(self):
        tree = ("hold", "f", given("x", plus(use("x"), ONE)), ("test", ("apply", use("f"), ONE), ("run", ("code", (
            "code", ("put", ("lift", TWO))))), ONE))
        done = [("more",)] * 7 + [("code", TWO)]
        for most in range(8):
            self.assertEqual(self.end(tree, most), (done[most], most))
        self.assertEqual(self.end(tree), (("code", TWO), 7))

    def test_endless(self):
        own = given("x", ("apply", use("x"), use("x")))
        self.assertEqual(self.end(("apply", own, own)), (("more",), 400))
        self.assertEqual(self.end(("apply", own, own), 0), (("more",), 0))
        grow = given("x", plus(ONE, ("apply", use("x"), use("x"))))
        self.assertEqual(self.end(("apply", grow, grow)), (("more",), 400))
        runs = given("x", ("run", ("code", ("put", ("apply", use("x"), use("x"))))))
        self.assertEqual(self.end(("apply", runs, runs)), (("more",), 400))
        self.assertEqual(self.end(("apply", own, ("apply", ONE, ONE)), 0), (("stuck", "apply"), 0))

    def test_plain_words(self):
        self.assertEqual(self.end(("code", ("hold", "z", given("y", use("y")), given("x", use("z"))))),
                         (("code", ("hold", "a", given("b", use("b")), given("c", use("a")))), 0))

    def test_model(self):
        kinds = {}
        for astray in (0, 6):
            for seed in range(500):
                tree = grown_staged(seed, astray)
                self.assertTrue(is_staged(tree))
                for most in (400, 3):
                    end = run_staged(tree, most)
                    self.assertEqual(end, model_end(tree, most), tree)
                    kinds[end[0][0]] = kinds.get(end[0][0], 0) + 1
        for kind in ("value", "code", "stuck", "stage", "wanting", "more"):
            self.assertGreater(kinds[kind], 4, kind)

    def test_own_stage_and_calm(self):
        calm = 0
        for seed in range(400):
            for astray in (0, 9):
                tree = grown_staged(seed, astray)
                if stage_faults(tree):
                    continue
                end = run_staged(tree, 400)[0]
                self.assertNotEqual(end[0], "stage")
                if is_calm(tree):
                    calm += "run" in repr(tree)
                    self.assertNotEqual(end[0], "wanting")
        self.assertGreater(calm, 60)

    def test_bound_words(self):
        for seed in range(300):
            tree = grown_staged(seed, 7 * (seed % 2))
            picks = Picks(seed)
            words = first_words(200, [])[picks.below(60):]
            other = reworded(tree, iter(words))
            self.assertTrue(is_staged(other))
            one, two = run_staged(tree, 60), run_staged(other, 60)
            if one[0][0] in ("stage", "wanting"):
                one, two = (one[0][0], one[1]), (two[0][0], two[1])
            self.assertEqual(one, two)
            self.assertEqual(erased_tree(tree), erased_tree(other))

    def test_erased_trees_come_to_the_same_amounts(self):
        both = 0
        for seed in range(400):
            tree = grown_staged(seed, 7 * (seed % 2))
            end, erased = run_staged(tree, 400)[0], run_of(erased_tree(tree), 400)[0]
            if end[0] == erased[0] == "value" and "given" not in (end[1], erased[1]):
                self.assertEqual(end, erased)
                both += "code" in repr(tree)
        self.assertGreater(both, 40)

    def test_shown_stages(self):
        self.assertEqual(shown_stages(("code", ("code", ONE)), 0), [("code", ("code", ONE)), ("code", ONE), ("value", 1)])
        deep = ("code", ("code", ("code", ONE)))
        self.assertEqual(shown_stages(deep, 0)[-1], ("value", 1))
        self.assertEqual(len(shown_stages(deep, 0)), 4)
        self.assertEqual(shown_stages(("code", plus(ONE, ("given", "x", ONE))), 9)[1], ("stuck", "reckon"))
        self.assertEqual(shown_stages(("code", plus(ONE, ONE)), 0), [("code", plus(ONE, ONE)), ("more",)])
        self.assertEqual(shown_stages(("lift", plus(ONE, ONE)), 1), [("more",)])
        self.assertEqual(shown_stages(("lift", plus(ONE, ONE)), 2), [("code", TWO), ("value", 2)], "each with so many steps")
        great = ("hold", "c", ("code", wide(99)), ("code", plus(("put", use("c")), plus(("put", use("c")), ("put", use("c"))))))
        self.assertEqual([end[0] for end in shown_stages(great, 400)], ["code"])

    def test_at_most_four(self):
        self.assertEqual(shown_stages(("code", ("run", ONE)), 9), [("code", ("run", ONE)), ("stuck", "run")])
        five = ("code", ("code", ("run", ("code", ("lift", ("amount", 5))))))
        self.assertEqual(shown_stages(five, 9), [("code", five[1]), ("code", five[1][1]), ("code", ("amount", 5)), ("value", 5)])
        lifts = ("code", ("code", ("apply", given("c", use("c")), ("code", ("lift", TWO)))))
        self.assertEqual(shown_stages(lifts, 9)[2:], [("code", ("lift", TWO)), ("code", TWO)], "the fifth is not told")

    def test_errors(self):
        for function in (run_staged, shown_stages):
            for value in ODD_VALUES + (use("x"), ("put", ONE), wide(201), nested(300)):
                self.assertRaises(InvalidStaged, function, value, -1)
            for most in (-1, 401, True, None, "1", (1,)):
                self.assertRaises(InvalidNumber, function, ONE, most)
            function(ONE, 0)
            function(ONE, 400)


SWAP = given("a", given("b", ("code", ("hold", "t", ("put", use("a")), ("reckon", "-", ("put", use("b")), use("t"))))))
TWICE = given("a", ("code", plus(("put", use("a")), ("put", use("a")))))
TABLE = (("swap", SWAP), ("twice", TWICE))


class Points29And64(unittest.TestCase):
    def made(self, text, table=TABLE, most=9):
        result = made_with(read_tree(text), table, most)
        return (result[0], tree_text(result[1])) if result[0] == "made" else result

    def test_tables(self):
        for value in ((), TABLE, tuple([(word, ONE) for word in "abcdef"])):
            self.assertTrue(is_table(value))
        for value in (TABLE[::-1], TABLE[:1] * 2, tuple([(word, ONE) for word in "abcdefg"]), [("a", ONE)], (("a", use("x")),),
                      (("given", ONE),), (["a", ONE],), (("a", ONE, ONE),), ("ab",), (("b", ONE), ("b", TWO)), None, (1,),
                      (("b", ONE), ("a", TWO)), ((("a", ()), ONE),), (("a", ("put", ONE)),)):
            self.assertIs(is_table(value), False, value)
        for value in ODD_VALUES:
            self.assertIs(is_table(value), value == ())

    def test_made(self):
        self.assertEqual(self.made("(hold t 5 (make swap 2 t))"), ("made", "(hold a 5 (hold b 2 (- a b)))"))
        self.assertEqual(self.made("(given x (make twice (make swap x y)))"),
                         ("made", "(given a (+ (hold b a (- y b)) (hold c a (- y c))))"))
        self.assertEqual(self.made("(+ x 1)", ()), ("made", "(+ x 1)"))
        self.assertEqual(self.made("(given z (hold y z (given z y)))", ()), ("made", "(given a (hold b a (given c b)))"))
        self.assertEqual(self.made("(make one)", (("one", ("code", given("x", use("x")))),)), ("made", "(given a a)"))

    def test_innermost_first(self):
        table = (("bad", ONE), ("worse", TWO))
        self.assertEqual(self.made("(make bad (make worse))", table), ("stopped", "worse", ("value", 2)))
        self.assertEqual(self.made("(+ (make bad (make zap)) (make worse))", table), ("stopped", "zap", "maker"))
        self.assertEqual(self.made("(+ (make bad) (make worse))", table), ("stopped", "bad", ("value", 1)))
        self.assertEqual(self.made("(make zap (+ 1 (make bad)) (make worse))", table), ("stopped", "bad", ("value", 1)))

    def test_the_word_alone_counts(self):
        self.assertEqual(self.made("(hold twice 1 (make twice twice))"), ("made", "(hold a 1 (+ a a))"))

    def test_stops(self):
        for text, stop in (("(make zap)", ("zap", "maker")), ("(make swap 2)", ("swap", ("value", "given"))),
                           ("(make swap 1 2 3)", ("swap", ("stuck", "apply"))), ("(make twice)", ("twice", ("value", "given")))):
            self.assertEqual(self.made(text), ("stopped", *stop))
        for program, end in ((("hold", "x", ONE, ("code", use("x"))), ("stage", "x")), (given("a", use("a")), ("value", "given")),
                             (("run", ONE), ("stuck", "run")), (("amount", 3), ("value", 3)), (given("a", ONE), ("value", "given"))):
            self.assertEqual(self.made("(make m)", (("m", program),)), ("stopped", "m", end))
        self.assertEqual(self.made("(given x (make m x))", (("m", given("a", ("run", use("a")))),)), ("stopped", "m", ("wanting", "x")))
        self.assertEqual(self.made("(make m (+ 1 2))", (("m", given("a", ("run", use("a")))),)), ("stopped", "m", ("value", 3)))
        self.assertEqual(self.made("(make m 1 2)", (("m", ("run", ONE)),)), ("stopped", "m", ("stuck", "run")), "ahead of all pieces")
        self.assertEqual(self.made("(make m 1 2)", (("m", ("code", ONE)),)), ("stopped", "m", ("stuck", "apply")))
        self.assertEqual(self.made("(make m (+ 1 2))", (("m", given("a", ("lift", ("run", use("a"))))),)), ("made", "3"))

    def test_most_steps_of_each_use(self):
        text = "(make twice (make twice 1))"
        self.assertEqual(self.made(text, TABLE, 3)[0], "made")
        self.assertEqual(self.made(text, TABLE, 2), ("stopped", "twice", ("more",)))
        self.assertEqual(self.made("(make one)", (("one", ("code", ONE)),), 0), ("made", "1"))

    def test_forms(self):
        for form in (("code", ONE), ("run", ONE), ("lift", ONE), ("code", ("put", ONE))):
            table = (("m", ("code", plus(ONE, form))),)
            self.assertEqual(self.made("(make m)", table), ("stopped", "m", "form"), form)
            self.assertEqual(self.made("(+ 1 (make m))", table), ("stopped", "m", "form"))

    def test_pieces_of_any_size(self):
        big = broad(600)
        self.assertEqual(made_with(("make", ("m", ()), (big,)), (("m", given("a", use("a"))),), 9), ("made", with_plain_names(big)))
        self.assertEqual(made_with(("make", ("m", ()), (big,)), (("m", given("a", ("code", ("put", use("a"))))),), 9),
                         ("stopped", "m", ("stuck", "great")))
        self.assertEqual(made_with(("make", ("m", ()), (broad(400),)), (("m", given("a", ("code", ("put", use("a"))))),), 9)[0], "made")

    def test_great_trees(self):
        table = (("m", given("a", ("code", plus(("put", use("a")), ("put", use("a")))))),)
        fit = ("apply", broad(600), ("make", ("m", ()), (broad(199),)))
        whole = with_plain_names(("apply", broad(600), plus(broad(199), broad(199))))
        self.assertEqual(tree_size(whole), 1000)
        self.assertEqual(made_with(fit, table, 9), ("made", whole))
        self.assertEqual(made_with(("apply", broad(601), fit[2]), table, 9), ("stopped", "m", "great"))
        over = ("apply", broad(700), ("make", ("m", ()), (broad(150),)))
        self.assertEqual(made_with(over, table, 9), ("stopped", "m", "great"))
        deep = ("make", ("m", ()), (chain(58),))
        self.assertEqual(made_with(("apply", ONE, deep), table, 9)[0], "made")
        self.assertEqual(made_with(("apply", ONE, ("apply", ONE, ("make", ("m", ()), (chain(57),)))), table, 9)[0], "made")
        deeper = (("m", given("a", ("code", given("x", given("y", ("put", use("a"))))))),)
        self.assertEqual(made_with(("apply", ONE, ("make", ("m", ()), (chain(57),))), deeper, 9)[0], "made")
        self.assertEqual(made_with(("apply", ONE, ("make", ("m", ()), (chain(58),))), deeper, 9), ("stopped", "m", "great"))

    def test_forty_makings(self):
        def tree_of(many, last):
            text = last
            for _ in range(many):
                text = f"(+ (make one) {text})"
            return text
        table = (("form", ("code", ("lift", ONE))), ("one", ("code", ONE)), ("stuck", ("run", ONE)))
        self.assertEqual(self.made(tree_of(40, "1"), table)[0], "made")
        self.assertEqual(self.made(tree_of(41, "1"), table), ("stopped", "one", "great"))
        for word, told in (("zap", "maker"), ("stuck", "great"), ("form", "great")):
            self.assertEqual(self.made(tree_of(40, f"(make {word})"), table), ("stopped", word, told))
            self.assertNotEqual(self.made(tree_of(39, f"(make {word})"), table)[2], "great")

    def test_numbers_go_on_from_use_to_use(self):
        table = (("held", given("a", ("code", ("hold", "t", ONE, plus(use("t"), ("put", use("a"))))))),)
        self.assertEqual(self.made("(make held (make held t))", table), ("made", "(hold a 1 (+ a (hold b 1 (+ b t))))"))
        self.assertEqual(self.made("(hold t 2 (make held (make held t)))", table),
                         ("made", "(hold a 2 (hold b 1 (+ b (hold c 1 (+ c a)))))"))
        binds = (("bind", given("f", ("code", given("t", ("put", ("apply", use("f"), ("code", use("t")))))))),)
        self.assertEqual(self.made("(make bind (given t t))", binds), ("stopped", "bind", ("stuck", "apply")))

    def test_plain_names(self):
        self.assertEqual(self.made("(hold q 1 (+ (make twice a) q))"), ("made", "(hold b 1 (+ (+ a a) b))"))

    def test_errors(self):
        tree = read_tree("(make twice 1)")
        for wrong in (read_tree("(maker m (row () 1) 2)"), read_tree("(+ 1 x@1)"), read_tree("(make m@1)"), None, ("fill", "x"),
                      read_tree("(make twice (maker m (row () 1) 2))"), ("use", "x")):
            self.assertRaises(InvalidTree, made_with, wrong, None, None)
        for wrong in (TABLE[::-1], None, [], (1,)):
            self.assertRaises(InvalidTable, made_with, tree, wrong, None)
        for wrong in (-1, 401, True, None):
            self.assertRaises(InvalidNumber, made_with, tree, TABLE, wrong)


if __name__ == "__main__":
    unittest.main()
