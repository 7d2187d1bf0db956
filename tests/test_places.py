"""Points [34] to [37] and [69] to [71]: codes by places, how they are run, and made better."""

import unittest

from namesapart.betterplaces import best_code, better_steps, bettered, is_bettering
from namesapart.errors import InvalidCode, InvalidNumber, InvalidProgram, InvalidStep, InvalidTree, TooMany
from namesapart.placecodes import code_of, count_lines, is_code, live_places
from namesapart.placeruns import run_code, shown_by_code
from namesapart.plain import are_alike, with_plain_names
from namesapart.running import is_program, run_of, shown_by
from namesapart.trees import tree_size
from tests.growing import A, B, C, ODD_VALUES, Picks, broad, chain, grown_tree, nested, read_tree

ONE = ("amount", 1)


def of(text):
    """The code of the program with this text."""
    return code_of(read_tree(text))


def block(*lines, last=None, held=0):
    """A block with these lines, its last place being that of the last line if none is told."""
    return (held, (tuple(lines), len(lines) - 1 if last is None else last))


def plus(one, two):
    return ("reckon", "+", one, two)


def nested_tests(many):
    """A code with tests so deep within one another."""
    stretch = ((), 0)
    for _ in range(many):
        stretch = ((("test", 0, stretch, ((), 0)),), 0)
    return ((0, ((ONE, *stretch[0]), 1)),)


def grown_program(seed):
    """A program, grown, of a size of at most 300."""
    while True:
        picks = Picks(seed)

        def grown(left, scope):
            if left == 0 or picks.below(7) == 0:
                if scope and picks.below(4):
                    return ("use", (picks.one_of(scope), ()))
                return ("amount", picks.below(4))
            kind = picks.one_of(("given", "apply", "apply", "apply", "hold", "hold", "reckon", "reckon", "test"))
            word = picks.one_of("xyz")
            if kind == "given":
                return (kind, (word, ()), grown(left - 1, scope + [word]))
            if kind == "hold":
                return (kind, (word, ()), grown(left - 1, scope), grown(left - 1, scope + [word]))
            if kind == "reckon":
                return (kind, picks.one_of("+-*"), grown(left - 1, scope), grown(left - 1, scope))
            if kind == "test":
                return (kind, *[grown(left - 1, scope) for _ in range(3)])
            if picks.below(3):
                return (kind, ("given", (word, ()), grown(left - 1, scope + [word])), grown(left - 1, scope))
            return (kind, grown(left - 1, scope), grown(left - 1, scope))
        tree = grown(3 + picks.below(4), [])
        if tree_size(tree) <= 300:
            return tree
        seed += 100003


class Point34(unittest.TestCase):
    def test_lines(self):
        for line in (("amount", 5), plus(0, 1), ("reckon", "*", 1, 1), ("apply", 1, 0), ("given", 1, (0, 1)), ("given", 1, (1, 0)),
                     ("given", 1, (1, 1)), ("test", 1, ((), 0), ((ONE,), 2)), ("test", 0, ((ONE, plus(2, 0)), 3), ((), 1))):
            self.assertTrue(is_code((block(ONE, ONE, line), block(ONE, held=2))), line)
        for line in (("amount", 10 ** 12 + 1), ("amount", True), plus(0, 2), plus(-1, 0), plus(0, True), ("reckon", "/", 0, 0),
                     ("apply", 0, 2), ("apply", None, 0), ("apply", 0), ("given", 0, ()), ("given", 1, (0,)), ("given", 1, (0, 2)),
                     ("given", 2, ()), ("given", 1, [0, 1]), ("given", True, (0, 1)), ("given", 1, (0, 1, 1)), ("use", 0),
                     ("test", 2, ((), 0), ((), 0)), ("test", 0, ((), 2), ((), 0)), ("test", 0, ((), 0), ((), 2)),
                     ("test", 0, ((ONE,), 3), ((), 0)), ("test", 0, ((), 0)), ("test", 0, [(), 0], ((), 0)),
                     ("test", 0, ([], 0), ((), 0)), ("test", 0, ((plus(0, 2),), 0), ((), 0)), ("test", 0, ((), True), ((), 0)),
                     ["amount", 1], None, (), ("amount",), (1, 1), (["amount"], 1)):
            self.assertIs(is_code((block(ONE, ONE, line), block(ONE, held=2))), False, line)

    def test_stretches_of_tests(self):
        inner = ("test", 0, ((ONE, plus(1, 0)), 2), ((), 0))
        self.assertTrue(is_code((block(ONE, inner, plus(0, 1)),)), "the test makes the next place")
        self.assertFalse(is_code((block(ONE, inner, plus(0, 2)),)), "what is made in it is forgotten")
        self.assertFalse(is_code((block(ONE, inner, last=2),)))
        two = ("test", 0, ((("test", 0, ((ONE,), 1), ((), 0)), plus(1, 1)), 2), ((), 0))
        self.assertTrue(is_code((block(ONE, two),)))

    def test_beginnings(self):
        self.assertTrue(is_code((block(ONE), block(plus(0, 0), last=1))))
        self.assertTrue(is_code((block(ONE), (0, ((), 0)))), "what is handed")
        self.assertTrue(is_code((block(ONE), (2, ((plus(0, 2),), 3)))))
        for wrong in (((0, ((), 0)),), ((1, ((ONE,), 0)),), (block(plus(0, 0)),), (block(ONE), (0, ((), 1))), (block(ONE), (0, ((plus(0, 1),), 1))),
                      (block(ONE), (2, ((plus(0, 3),), 3))), (block(ONE), (2, ((), 3)))):
            self.assertIs(is_code(wrong), False, wrong)

    def test_blocks(self):
        self.assertTrue(is_code((block(ONE, ("given", 1, (0,) * 60)), (60, ((), 60)))))
        self.assertFalse(is_code((block(ONE, ("given", 1, (0,) * 61)), (61, ((), 60)))))
        self.assertFalse(is_code((block(ONE), (61, ((), 60)))))
        self.assertTrue(is_code((block(ONE),) + ((0, ((), 0)),) * 299))
        self.assertFalse(is_code((block(ONE),) + ((0, ((), 0)),) * 300))
        self.assertTrue(is_code((block(("given", 1, ())), block(("given", 1, ()), last=1))), "a block can name itself")
        for wrong in ((), [block(ONE)], (block(ONE), None), ((False, ((ONE,), 0)),), ((0, ((ONE,), 0), 0),), block(ONE),
                      (block(ONE), (True, ((), 0))), (block(ONE), (-1, ((), 0)))):
            self.assertIs(is_code(wrong), False, wrong)
        for value in ODD_VALUES + (nested(300),):
            self.assertIs(is_code(value), False)

    def test_six_hundred_lines(self):
        self.assertTrue(is_code((block(*[ONE] * 600),)))
        self.assertFalse(is_code((block(*[ONE] * 601),)))
        self.assertTrue(is_code((block(*[ONE] * 300), block(*[ONE] * 300))))
        self.assertFalse(is_code((block(*[ONE] * 300), block(*[ONE] * 301))))
        inner = ("test", 0, ((ONE,) * 299, 0), ((ONE,) * 299, 0))
        self.assertTrue(is_code((block(ONE, inner),)))
        self.assertEqual(count_lines((block(ONE, inner),)), 600)
        self.assertFalse(is_code((block(ONE, inner), block(ONE))))

    def test_sixty_tests(self):
        self.assertTrue(is_code(nested_tests(60)))
        self.assertFalse(is_code(nested_tests(61)))
        shared = ((), 0)
        for _ in range(60):
            shared = ((("test", 0, shared, shared),), 0)
        self.assertFalse(is_code((0, ((ONE, *shared[0]), 1))))
        self.assertFalse(is_code(((0, ((ONE, *shared[0]), 1)),)))


class Points35And69(unittest.TestCase):
    def test_codes(self):
        for text, code in (
            ("5", (block(("amount", 5)),)),
            ("(hold x 2 (hold y x (+ y x)))", (block(("amount", 2), plus(0, 0)),)),
            ("(hold x 2 3)", (block(("amount", 2), ("amount", 3)),)),
            ("(hold x 2 x)", (block(("amount", 2)),)),
            ("(test 1 2 (test 3 4 5))", (block(ONE, ("test", 0, ((("amount", 2),), 1), (
                (("amount", 3), ("test", 1, ((("amount", 4),), 2), ((("amount", 5),), 2))), 2))),)),
            ("(+ (test 1 2 3) 4)", (block(ONE, ("test", 0, ((("amount", 2),), 1), ((("amount", 3),), 1)), ("amount", 4), plus(1, 2)),)),
            ("(apply (given x x) (given y 1))", (block(("given", 1, ()), ("given", 2, ()), ("apply", 0, 1)), (0, ((), 0)),
                                                 (0, ((ONE,), 1)))),
            ("(hold x 1 (hold y 2 (given z (- z (+ y x)))))",
             (block(ONE, ("amount", 2), ("given", 1, (0, 1))), (2, ((plus(1, 0), ("reckon", "-", 2, 3)), 4)))),
            ("(given x (given y (given z (+ x z))))",
             (block(("given", 1, ())), (0, ((("given", 2, (0,)),), 1)), (1, ((("given", 3, (0,)),), 2)), (1, ((plus(0, 1),), 2)))),
            ("(hold x 1 (hold y x (given z (+ x (+ y z)))))", (block(ONE, ("given", 1, (0,))), (1, ((plus(0, 1), plus(0, 2)), 3)))),
            ("(given x (given x x))", (block(("given", 1, ())), (0, ((("given", 2, ()),), 1)), (0, ((), 0)))),
        ):
            self.assertEqual(of(text), code, text)

    def test_blocks_in_the_order_of_the_text(self):
        code = of("(apply (given a (given b 1)) (hold f (given c 2) (given d 3)))")
        self.assertEqual(code, (block(("given", 1, ()), ("given", 3, ()), ("given", 4, ()), ("apply", 0, 2)),
                                (0, ((("given", 2, ()),), 1)), (0, ((ONE,), 1)), (0, ((("amount", 2),), 1)), (0, ((("amount", 3),), 1))))
        within = of("(test 1 (given a 2) (given b 3))")
        self.assertEqual(within[0], block(ONE, ("test", 0, ((("given", 1, ()),), 1), ((("given", 2, ()),), 1))))

    def test_alike_programs(self):
        for seed in range(150):
            tree = grown_program(seed)
            other = with_plain_names(tree)
            self.assertTrue(are_alike(tree, other))
            self.assertEqual(code_of(tree), code_of(other))
        self.assertEqual(of("(given x (given y (+ x y)))"), of("(given q (given r (+ q r)))"))
        self.assertNotEqual(of("(given x (given y (+ x y)))"), of("(given q (given r (+ r q)))"))

    def test_codes_are_codes(self):
        for seed in range(150):
            code = code_of(grown_program(seed))
            self.assertTrue(is_code(code))
            self.assertEqual(count_lines(code), repr(code).count("('"))
        self.assertTrue(is_code(code_of(chain(60))))
        self.assertEqual(len(code_of(chain(60))), 60)

    def test_sizes(self):
        self.assertTrue(is_code(code_of(broad(300))))
        with self.assertRaises(TooMany) as caught:
            code_of(broad(301))
        self.assertEqual(caught.exception.limit, 300)
        self.assertRaises(InvalidProgram, code_of, ("apply", broad(300), read_tree("x")))
        for wrong in (None, ("fill", "x"), broad(1001)):
            self.assertRaises(InvalidTree, code_of, wrong)
        for text in ("x", "(make m)", "(maker m (row () 1) 2)", "(given x@1 1)"):
            self.assertRaises(InvalidProgram, of, text)

    def test_live_places(self):
        self.assertEqual(live_places(of("(hold x 2 (+ (* x x) x))")), (((0,), (0, 1), (2,)),))
        tests = of("(hold x 1 (hold y 2 (hold z 3 (+ (test x y z) y))))")
        self.assertEqual(live_places(tests), (((0,), (0, 1), (0, 1, 2), (1, 3), (4,)),))
        inner = (block(ONE, ONE, ("test", 0, ((plus(1, 1), plus(2, 1)), 3), ((), 0)), last=2),)
        self.assertEqual(live_places(inner), (((0,), (0, 1), (2,)),), "places made in tests are none of these")
        held = (block(ONE, ("given", 1, (0, 0))), (2, ((plus(0, 2), ONE), 3)))
        self.assertEqual(live_places(held), (((0,), (1,)), ((3,), (3,))))
        early = (block(ONE, ("given", 1, (0, 0))), (2, ((ONE, plus(0, 2)), 1)))
        self.assertEqual(live_places(early)[1], ((0, 1, 2), (1,)))
        self.assertEqual(live_places(of("(given x x)")), (((0,),), ()))

    def test_errors(self):
        for value in ODD_VALUES + (block(ONE), nested(300), nested_tests(61)):
            for function in (count_lines, live_places, better_steps, best_code):
                self.assertRaises(InvalidCode, function, value)
            self.assertRaises(InvalidCode, run_code, value, -1)
            self.assertRaises(InvalidCode, bettered, value, None)
            self.assertRaises(InvalidCode, is_bettering, value, value, None)
            self.assertRaises(InvalidCode, is_bettering, of("1"), value, None)


class Points36And70(unittest.TestCase):
    def test_runs(self):
        for text, end in (("(apply 1 2)", (("stuck", "apply"), 2)), ("(test (given x x) 1 2)", (("stuck", "test"), 1)),
                          ("(+ 1 (given x x))", (("stuck", "reckon"), 2)), ("(+ (given x x) 1)", (("stuck", "reckon"), 2)),
                          ("(* 1000001 1000000)", (("stuck", "great"), 2)), ("(* 1000000 1000000)", (("value", 10 ** 12), 3)),
                          ("(test 5 1 2)", (("value", 1), 3)), ("(test 0 1 2)", (("value", 2), 3)), ("(given x x)", (("value", "given"), 1)),
                          ("(hold x (- 1 3) x)", (("value", -2), 3)), ("(+ (test 0 1 2) (test 1 (test 0 3 4) 5))", (("value", 6), 9))):
            self.assertEqual(run_code(of(text), 2000), end, text)

    def test_held_and_handed(self):
        code = (block(("amount", 5), ("amount", 7), ("given", 1, (1, 0)), ("amount", 100), ("apply", 2, 3)),
                (2, ((("reckon", "-", 0, 1), ("reckon", "*", 3, 2)), 4)))
        self.assertEqual(run_code(code, 9), (("value", 200), 7))
        self.assertEqual(run_code((block(ONE, ("given", 1, (0,)), ("apply", 1, 0)), (1, ((), 1))), 9), (("value", 1), 3))

    def test_values_of_tests_are_forgotten(self):
        code = (block(ONE, ("test", 0, ((("amount", 7), ("amount", 8), plus(1, 2)), 3), ((), 0)), plus(0, 1)),)
        self.assertEqual(run_code(code, 9), (("value", 16), 6))

    def test_most_lines(self):
        code = of("(apply (given x (+ x 1)) 5)")
        self.assertEqual([run_code(code, most) for most in range(7)],
                         [(("more",), 0), (("more",), 1), (("more",), 2), (("more",), 3), (("more",), 4), (("value", 6), 5), (("value", 6), 5)])
        self.assertEqual(run_code(of("1"), 0), (("more",), 0))
        tests = of("(test 1 (test 0 2 3) 4)")
        self.assertEqual([run_code(tests, most)[1] for most in range(6)], [0, 1, 2, 3, 4, 5])
        self.assertEqual(run_code(tests, 5), (("value", 3), 5))

    def test_stuck_behind_as_many_lines_as_are_let(self):
        for text, done, reason in (("(apply 1 2)", 2, "apply"), ("(test (given x x) 1 2)", 1, "test"), ("(+ 1 (given x x))", 2, "reckon"),
                                   ("(* 1000001 1000000)", 2, "great")):
            self.assertEqual(run_code(of(text), done), (("stuck", reason), done))
            self.assertEqual(run_code(of(text), done - 1), (("more",), done - 1))
        self.assertEqual(run_code(of("(test 1 (apply 1 2) 3)"), 4), (("stuck", "apply"), 4))

    def test_endless(self):
        own = of("(apply (given x (apply x x)) (given x (apply x x)))")
        self.assertEqual(run_code(own, 2000), (("more",), 2000))
        grow = of("(apply (given x (test 1 (+ 1 (apply x x)) 2)) (given x (test 1 (+ 1 (apply x x)) 2)))")
        self.assertEqual(run_code(grow, 2000), (("more",), 2000))
        itself = (block(("given", 1, ()), ("apply", 0, 0)), (0, ((("given", 1, ()), ("apply", 1, 0)), 2)))
        self.assertEqual(run_code(itself, 999), (("more",), 999))

    def test_the_code_comes_to_the_end_of_the_program(self):
        kinds = {}
        for seed in range(400):
            tree = grown_program(seed)
            end, told = run_of(tree, 400)[0], run_code(code_of(tree), 2000)[0]
            if ("more",) not in (end, told):
                self.assertEqual(end, told)
                kinds[end[0]] = kinds.get(end[0], 0) + 1
        self.assertGreater(min(kinds.values()), 60)

    def test_shown(self):
        for text in (A, B, C, "(apply 1 2)", "(+ x 1)", "(make z)", "(maker m (row () 1) (+ 1 m))", "(maker m (row (1) 1) (make m 2))"):
            self.assertEqual(shown_by_code(read_tree(text), 2000), shown_by(read_tree(text), 400), text)
        self.assertEqual(shown_by_code(read_tree(C), 1), ("more",))
        for seed in range(120):
            tree = grown_tree(seed)
            one, other = shown_by(tree, 400), shown_by_code(tree, 2000)
            if ("more",) not in (one, other):
                self.assertEqual(one, other)

    def test_errors(self):
        code = of("1")
        for most in (-1, 2001, True, None, "1"):
            self.assertRaises(InvalidNumber, run_code, code, most)
            self.assertRaises(InvalidNumber, shown_by_code, ONE, most)
            self.assertRaises(InvalidNumber, shown_by_code, broad(301), most)
            self.assertRaises(InvalidTree, shown_by_code, ("fill", "x"), most)
        self.assertEqual(run_code(code, 2000), (("value", 1), 1))
        with self.assertRaises(TooMany) as caught:
            shown_by_code(broad(301), 9)
        self.assertEqual(caught.exception.limit, 300)
        self.assertEqual(shown_by_code(("apply", broad(300), read_tree("x")), 9), ("free", ("x",)))
        shrinking = read_tree("(maker m (row (any:e) 1) 2)")
        shrinking = shrinking[:3] + (("make", ("m", ()), (broad(400),)),)
        self.assertEqual(shown_by_code(shrinking, 9), ("value", 1), "the plain tree counts")


class Points37And71(unittest.TestCase):
    def test_same(self):
        code = (block(ONE, ("amount", 2), ONE, plus(1, 2), plus(1, 0), last=4),)
        self.assertEqual([step for step in better_steps(code) if step[0] == "same"], [("same", 0, (2,))])
        behind = bettered(code, ("same", 0, (2,)))
        self.assertEqual(behind, (block(ONE, ("amount", 2), plus(1, 0), plus(1, 0), last=3),))
        self.assertEqual(bettered(behind, ("same", 0, (3,))), (block(ONE, ("amount", 2), plus(1, 0), last=2),))
        three = (block(ONE, ONE, ONE),)
        self.assertEqual(bettered(three, ("same", 0, (2,))), (block(ONE, ONE, last=0),), "the first such line")

    def test_same_of_each_kind(self):
        blocks = (0, ((), 0))
        code = (block(ONE, ("given", 1, ()), ("given", 1, ()), ("apply", 1, 0), ("apply", 1, 0), ("test", 0, ((), 0), ((), 0)),
                      ("test", 0, ((), 0), ((), 0)), last=6), blocks)
        self.assertEqual([step[2] for step in better_steps(code) if step[0] == "same"], [(2,), (4,)], "tests are none")

    def test_lines_that_are_seen(self):
        inner = ("test", 0, ((plus(0, 0), plus(1, 0)), 2), ((plus(0, 0),), 1))
        code = ((0, ((ONE, plus(0, 0), inner, plus(0, 0)), 3)),)
        code = (block(ONE, inner, plus(0, 0)),)
        self.assertEqual([step for step in better_steps(code) if step[0] == "same"], [], "neither of the other stretch nor of a test")
        around = (block(ONE, plus(0, 0), ("test", 1, ((plus(0, 0), ("test", 2, ((plus(0, 0), plus(2, 2)), 4), ((), 2))), 3), ((), 0))),)
        self.assertEqual([step for step in better_steps(around) if step[0] == "same"],
                         [("same", 0, (2, 0, 0)), ("same", 0, (2, 0, 1, 0, 0))])
        behind = bettered(around, ("same", 0, (2, 0, 0)))
        self.assertEqual(behind, (block(ONE, plus(0, 0), ("test", 1, ((("test", 1, ((plus(0, 0), plus(1, 1)), 3), ((), 1)),), 2), ((), 0))),))

    def test_known(self):
        code = (block(("amount", 6), ("amount", 7), ("reckon", "*", 0, 1), plus(2, 0)),)
        self.assertEqual([step for step in better_steps(code) if step[0] == "known"], [("known", 0, (2,))])
        self.assertEqual(bettered(code, ("known", 0, (2,))), (block(("amount", 6), ("amount", 7), ("amount", 42), plus(2, 0)),))
        great = (block(("amount", 10 ** 12), plus(0, 0)),)
        self.assertEqual(better_steps(great), [])
        self.assertEqual(better_steps((block(ONE, ("given", 1, (0,))), (1, ((plus(0, 1),), 2)))), [], "held values are made by no line")
        within = (block(ONE, ("test", 0, ((plus(0, 0),), 1), ((), 0))),)
        self.assertIn(("known", 0, (1, 0, 0)), better_steps(within))

    def test_chosen(self):
        code = of("(hold y 3 (hold x 0 (+ (test x 1 (+ y (* y y))) y)))")
        self.assertIn(("chosen", 0, (2,)), better_steps(code))
        self.assertEqual(bettered(code, ("chosen", 0, (2,))),
                         (block(("amount", 3), ("amount", 0), ("reckon", "*", 0, 0), plus(0, 2), plus(3, 0)),))
        ahead = of("(hold y 3 (+ (test 1 y 5) y))")
        self.assertEqual(bettered(ahead, ("chosen", 0, (2,))), (block(("amount", 3), ONE, plus(0, 0)),))
        self.assertEqual(better_steps(of("(given x (test x 1 2))")), [])
        nest = of("(test 1 (test 0 7 8) 9)")
        self.assertEqual(bettered(nest, ("chosen", 0, (1, 0, 1))), (block(ONE, ("test", 0, ((("amount", 0), ("amount", 8)), 2), (
            (("amount", 9),), 1))),))

    def test_idle(self):
        code = (block(ONE, ("given", 1, ()), ("amount", 2), plus(2, 2)), (0, ((), 0)))
        self.assertEqual([step for step in better_steps(code) if step[0] == "idle"], [("idle", 0, (0,)), ("idle", 0, (1,))])
        self.assertEqual(bettered(code, ("idle", 0, (0,))), (block(("given", 1, ()), ("amount", 2), plus(1, 1)), (0, ((), 0))))
        last = (block(ONE, ("amount", 2), last=0),)
        self.assertEqual(better_steps(last), [("idle", 0, (1,))])
        in_tests = (block(ONE, ("amount", 2), ("test", 0, ((plus(1, 1),), 2), ((), 0))),)
        self.assertNotIn(("idle", 0, (1,)), better_steps(in_tests))
        lasts = (block(ONE, ("amount", 2), ("test", 0, ((), 0), ((), 1))),)
        self.assertEqual([step for step in better_steps(lasts) if step[0] == "idle"], [])
        self.assertEqual(better_steps((block(ONE, ("given", 1, ()), plus(0, 1), last=0), (0, ((), 0)))), [], "a reckon stays")
        held = (block(ONE, ("given", 1, (0,))), (1, ((), 1)))
        self.assertEqual(better_steps(held), [])

    def test_places_that_have_the_same_number_in_tests(self):
        # The line within the test makes place 2, and so does the test: the amount of place 2 in it is idle all the same.
        inner = ("test", 0, ((("amount", 9), ("amount", 8)), 3), ((), 0))
        code = (block(ONE, ("amount", 0), inner, plus(2, 1)),)
        self.assertEqual([step for step in better_steps(code) if step[0] == "idle"], [("idle", 0, (2, 0, 0))])
        self.assertEqual(bettered(code, ("idle", 0, (2, 0, 0))),
                         (block(ONE, ("amount", 0), ("test", 0, ((("amount", 8),), 2), ((), 0)), plus(2, 1)),))
        own = ("test", 0, ((("amount", 9), plus(1, 1)), 2), ((), 0))
        code = (block(ONE, own, ("amount", 5), plus(1, 1)),)
        self.assertEqual([step for step in better_steps(code) if step[0] == "idle"], [("idle", 0, (2,))])

    def test_put(self):
        code = of("(hold y 3 (+ (apply (given x (* (+ x y) x)) 5) y))")
        self.assertEqual(better_steps(code), [("put", 0, (3,))])
        self.assertEqual(bettered(code, ("put", 0, (3,)))[0],
                         block(("amount", 3), ("given", 1, (0,)), ("amount", 5), plus(2, 0), ("reckon", "*", 3, 2), plus(4, 0)))
        handed = of("(+ (apply (given x x) 5) 6)")
        self.assertEqual(bettered(handed, ("put", 0, (2,)))[0], block(("given", 1, ()), ("amount", 5), ("amount", 6), plus(1, 2)))
        self.assertEqual([step for step in better_steps(of("(given f (apply f f))")) if step[0] == "put"], [])
        tests = of("(hold f (given x (test x (+ x 1) (given z (+ x z)))) (+ (test 1 (apply f 7) 2) 3))")
        behind = bettered(tests, ("put", 0, (2, 0, 1)))
        self.assertEqual(behind[0], block(("given", 1, ()), ONE, ("test", 1, ((("amount", 7), (
            "test", 2, ((ONE, plus(2, 3)), 4), ((("given", 2, (2,)),), 3))), 3), ((("amount", 2),), 2)), ("amount", 3), plus(2, 3)))

    def test_put_if_what_comes_is_a_code(self):
        def of_size(size):
            """A code of 4 lines and a block with all others, and an apply of this."""
            return (block(("given", 1, ()), ONE, ("apply", 0, 1)), block(*[plus(0, 0)] * size, last=size))
        for size, can in ((298, True), (299, True), (300, False)):
            self.assertTrue(is_code(of_size(size)))
            self.assertIs(("put", 0, (2,)) in better_steps(of_size(size)), can, size)
        self.assertEqual(count_lines(bettered(of_size(299), ("put", 0, (2,)))), 600)

        def of_depth(around, within):
            inner = ((("apply", 1, 0),), 2)
            for _ in range(around):
                inner = ((("test", 0, inner, ((), 0)),), 0)
            body = ((), 0)
            for _ in range(within):
                body = ((("test", 0, body, ((), 0)),), 0)
            return ((0, ((ONE, ("given", 1, ()), *inner[0]), 2)), (0, body))
        for around, within, can in ((0, 60, True), (1, 59, True), (1, 60, False), (30, 30, True), (30, 31, False), (60, 0, True)):
            code = of_depth(around, within)
            self.assertTrue(is_code(code))
            self.assertIs("put" in [step[0] for step in better_steps(code)], can)
            for step in better_steps(code):
                self.assertTrue(is_code(bettered(code, step)))

    def test_in_blocks(self):
        self.assertEqual(better_steps(of("(given x (test 0 (* x x) (+ x x)))")), [("chosen", 1, (1,))])
        code = of("(given x (+ (* 2 x) (* 2 x)))")
        self.assertEqual(better_steps(code), [("same", 1, (2,))])
        behind = bettered(code, ("same", 1, (2,)))
        self.assertEqual(behind, (code[0], (0, ((("amount", 2), ("reckon", "*", 1, 0), ("reckon", "*", 1, 0), plus(2, 3)), 4))))

    def test_ascending(self):
        code = of("(hold f (given x (test 0 1 (+ x 2))) (+ (apply f 1) (test 1 (apply f 1) (+ 2 2))))")
        steps = better_steps(code)
        self.assertEqual(steps, sorted(set(steps)))
        self.assertEqual(steps, [("chosen", 0, (4,)), ("chosen", 1, (1,)), ("known", 0, (4, 1, 2)), ("put", 0, (2,)), ("put", 0, (4, 0, 1)),
                                 ("same", 0, (3,)), ("same", 0, (4, 0, 0)), ("same", 0, (4, 1, 1))])

    def test_wrong_steps(self):
        code = of("(test 1 2 3)")
        self.assertEqual(better_steps(code), [("chosen", 0, (1,))])
        for step in (("chosen", 0, (0,)), ("chosen", 0, ()), ("chosen", 0, [1]), ("chosen", False, (1,)), ("chosen", 0, (True,)), None, (),
                     ("same", 0, (1,)), ["chosen", 0, (1,)], ("chosen", 1, (1,)), ("chosen", 0, (1, 0, 0)), ("chosen", 0, (1,), 0), ("chosen",)):
            self.assertRaises(InvalidStep, bettered, code, step)
            self.assertIs(is_bettering(code, code, (step,)), False)
            self.assertIs(is_bettering(code, bettered(code, ("chosen", 0, (1,))), (step,)), False)

    def test_better_steps_leave_the_end(self):
        kinds = {}
        for seed in range(250):
            code = code_of(grown_program(seed))
            end, done = run_code(code, 2000)
            for step in better_steps(code):
                behind = bettered(code, step)
                self.assertTrue(is_code(behind))
                kinds[step[0]] = kinds.get(step[0], 0) + 1
                if end != ("more",):
                    told, many = run_code(behind, 2000)
                    self.assertEqual(told, end)
                    self.assertLessEqual(many, done)
        self.assertEqual(sorted(kinds), ["chosen", "idle", "known", "put", "same"])
        self.assertGreater(min(kinds.values()), 50)

    def test_best_codes(self):
        sixty = 0
        for seed in range(250):
            code = code_of(grown_program(seed))
            best, steps = best_code(code)
            self.assertTrue(is_bettering(code, best, steps))
            if len(steps) < 60:
                self.assertEqual(better_steps(best), [])
            else:
                self.assertEqual(len(steps), 60)
                sixty += len(better_steps(best)) > 0
            told = code
            for step in steps:
                self.assertEqual(step, better_steps(told)[0])
                told = bettered(told, step)
            self.assertEqual(told, best)
            end, done = run_code(code, 2000)
            if end != ("more",):
                self.assertEqual(run_code(best, 2000)[0], end)
                self.assertLessEqual(run_code(best, 2000)[1], done)
        self.assertGreater(sixty, 0)

    def test_sixty_steps(self):
        self.assertEqual(len(best_code((block(*[ONE] * 61),))[1]), 60)
        self.assertEqual(best_code((block(*[ONE] * 61),))[0], (block(ONE),))
        best, steps = best_code((block(*[ONE] * 62),))
        self.assertEqual((len(steps), count_lines(best)), (60, 2))
        self.assertEqual(best_code((block(*[ONE] * 60),))[0], (block(ONE),))

    def test_is_bettering(self):
        code = of("(apply (given x (+ x 1)) 5)")
        best, steps = best_code(code)
        self.assertTrue(is_bettering(code, code, ()))
        self.assertTrue(is_bettering(code, best, steps))
        self.assertFalse(is_bettering(code, best, steps[:-1]))
        self.assertFalse(is_bettering(code, best, ()))
        for value in (list(steps), None, 1, steps + (None,), (1,), "same"):
            self.assertIs(is_bettering(code, best, value), False)
        many = (block(*[ONE] * 102),)
        whole = tuple([("idle", 0, (0,))] * 100)
        self.assertTrue(is_bettering(many, (block(ONE, ONE),), whole))
        self.assertFalse(is_bettering(many, (block(ONE),), whole + whole[:1]), "at most 100 steps")

    def test_programs_stay_as_they_are(self):
        for seed in range(40):
            tree = grown_program(seed)
            self.assertTrue(is_program(tree))
            code = code_of(tree)
            kept = repr(code)
            best_code(code)
            better_steps(code)
            self.assertEqual(repr(code), kept)


if __name__ == "__main__":
    unittest.main()
