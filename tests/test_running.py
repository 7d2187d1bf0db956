"""Points [12] and [52]: programs, their steps and their ends."""

import unittest

from namesapart.errors import InvalidNumber, InvalidProgram, InvalidTree
from namesapart.running import is_program, run_of, shown_by, step_of
from namesapart.texts import tree_text
from tests.growing import A, B, C, D, F, Picks, broad, chain, read_tree
from tests.test_plain import grown_plain

LOOP = "(apply (given x (apply x x)) (given x (apply x x)))"


def step(text):
    told = step_of(read_tree(text))
    return tree_text(told[1]) if told[0] == "step" else told


def count_down(number):
    """A program that counts down by itself, with 4 steps for each one, and 4 more."""
    return read_tree(f"(hold f (given g (given n (test n (apply (apply g g) (- n 1)) 0))) (apply (apply f f) {number}))")


def worked_out(tree, known, budget):
    """The end of a program told a second time, with values kept for names."""
    if budget[0] <= 0:
        raise OverflowError
    budget[0] -= 1
    kind = tree[0]
    if kind == "amount":
        return tree[1]
    if kind == "given":
        return (tree, known)
    if kind == "use":
        return known[tree[1][0]]
    if kind == "hold":
        return worked_out(tree[3], {**known, tree[1][0]: worked_out(tree[2], known, budget)}, budget)
    if kind == "test":
        one = worked_out(tree[1], known, budget)
        if not isinstance(one, int):
            raise KeyError("test")
        return worked_out(tree[3 if one == 0 else 2], known, budget)
    one = worked_out(tree[-2], known, budget)
    two = worked_out(tree[-1], known, budget)
    if kind == "apply":
        if isinstance(one, int):
            raise KeyError("apply")
        return worked_out(one[0][2], {**one[1], one[0][1][0]: two}, budget)
    if not isinstance(one, int) or not isinstance(two, int):
        raise KeyError("reckon")
    return {"+": one + two, "-": one - two, "*": one * two}[tree[1]]


class Steps(unittest.TestCase):
    def test_places(self):
        for text, behind in (
                ("(apply (+ 1 2) (+ 3 4))", "(apply 3 (+ 3 4))"), ("(apply 1 (+ 3 4))", "(apply 1 7)"),
                ("(+ (+ 1 2) (+ 3 4))", "(+ 3 (+ 3 4))"), ("(+ 3 (+ 3 4))", "(+ 3 7)"),
                ("(hold x (+ 1 2) (+ x (+ 1 1)))", "(hold x 3 (+ x (+ 1 1)))"),
                ("(test (+ 1 2) (+ 1 1) (+ 2 2))", "(test 3 (+ 1 1) (+ 2 2))"),
                ("(+ (given x x) (+ 1 2))", "(+ (given x x) 3)"),
                ("(+ (hold x (test 0 1 2) x) 5)", "(+ (hold x 2 x) 5)")):
            self.assertEqual(step(text), behind)

    def test_steps_at_the_tree_itself(self):
        for text, behind in (
                ("(apply (given x (+ x x)) 2)", "(+ 2 2)"), ("(hold x 2 (+ x x))", "(+ 2 2)"),
                ("(hold x (given y y) (apply x x))", "(apply (given y y) (given y y))"),
                ("(apply (given x (given x x)) 2)", "(given x x)"), ("(apply (given x (given y x)) 2)", "(given y 2)"),
                ("(apply (given x (hold x x x)) 2)", "(hold x 2 x)"), ("(hold x 1 (hold y x (+ x y)))", "(hold y 1 (+ 1 y))"),
                ("(hold x 1 (hold x x (+ x x)))", "(hold x 1 (+ x x))"),
                ("(+ 2 3)", "5"), ("(- 2 3)", "-1"), ("(* 2 -3)", "-6"),
                ("(test 0 1 2)", "2"), ("(test 7 1 2)", "1"), ("(test -7 1 2)", "1")):
            self.assertEqual(step(text), behind)

    def test_ends(self):
        for text, end in (("5", ("value", 5)), ("(given x (+ x 1))", ("value", "given")),
                          ("(apply 1 2)", ("stuck", "apply")), ("(apply 1 (given x x))", ("stuck", "apply")),
                          ("(+ 1 (given x x))", ("stuck", "reckon")), ("(* (given x x) 1)", ("stuck", "reckon")),
                          ("(test (given x x) 1 2)", ("stuck", "test")),
                          ("(+ (apply 1 2) 3)", ("stuck", "apply")), ("(hold x (test (given y y) 1 2) 3)", ("stuck", "test"))):
            self.assertEqual(step(text), end)

    def test_a_body_is_not_worked_out(self):
        self.assertEqual(step("(given x (apply 1 2))"), ("value", "given"))
        self.assertEqual(shown_by(read_tree("(test 1 2 (apply 1 2))"), 1), ("value", 2))

    def test_great_amounts(self):
        most = 10 ** 12
        self.assertEqual(step(f"(+ {most - 1} 1)"), str(most))
        self.assertEqual(step(f"(+ {most} 1)"), ("stuck", "great"))
        self.assertEqual(step(f"(- -{most - 1} 1)"), str(-most))
        self.assertEqual(step(f"(- -{most} 1)"), ("stuck", "great"))
        self.assertEqual(step("(* 1000000 1000000)"), str(most))
        self.assertEqual(step("(* 1000001 1000000)"), ("stuck", "great"))

    def test_great_trees(self):
        def doubled(size):
            return ("apply", ("given", ("x", ()), ("apply", ("use", ("x", ())), ("use", ("x", ())))),
                    ("given", ("y", ()), broad(size - 1)))
        self.assertEqual(step_of(doubled(499))[0], "step")
        self.assertEqual(step_of(doubled(500)), ("stuck", "great"))
        self.assertEqual(run_of(doubled(500), 9), (("stuck", "great"), 0))

    def test_deep_trees(self):
        def deeper(depth):
            return ("hold", ("x", ()), chain(depth), ("given", ("y", ()), ("given", ("z", ()), ("use", ("x", ())))))
        self.assertEqual(step_of(deeper(58))[0], "step")
        self.assertEqual(step_of(deeper(59)), ("stuck", "great"))


class Runs(unittest.TestCase):
    def test_numbers_of_steps(self):
        program = read_tree("(+ (+ 1 2) (+ 3 4))")
        for most in range(3):
            self.assertEqual(run_of(program, most), (("more",), most))
        for most in (3, 4, 400):
            self.assertEqual(run_of(program, most), (("value", 10), 3))
        self.assertEqual(run_of(read_tree("7"), 0), (("value", 7), 0))
        self.assertEqual(run_of(read_tree("(apply 1 2)"), 0), (("stuck", "apply"), 0))
        self.assertEqual(run_of(read_tree("(apply 1 (+ 1 1))"), 1), (("stuck", "apply"), 1))
        self.assertEqual(run_of(read_tree("(apply 1 (+ 1 1))"), 0), (("more",), 0))

    def test_no_end(self):
        program = read_tree(LOOP)
        for most in (0, 1, 400):
            self.assertEqual(run_of(program, most), (("more",), most))

    def test_400_steps(self):
        program = count_down(99)
        told = run_of(program, 400)
        self.assertEqual(told, (("value", 0), 400))
        self.assertEqual(run_of(program, 399), (("more",), 399))
        self.assertEqual(run_of(count_down(100), 400), (("more",), 400))

    def test_wrong_numbers(self):
        for most in (-1, 401, True, False, None, "1", (1,)):
            self.assertRaises(InvalidNumber, run_of, read_tree("1"), most)
            self.assertRaises(InvalidNumber, shown_by, read_tree("1"), most)

    def test_steps_one_by_one(self):
        program = count_down(3)
        many = 0
        while step_of(program)[0] == "step":
            program = step_of(program)[1]
            self.assertTrue(is_program(program))
            many += 1
        self.assertEqual(run_of(count_down(3), 400), (step_of(program), many))

    def test_ends_told_another_way(self):
        counted = {}
        for seed in range(500):
            tree = ("apply", ("given", ("x", ()), ("hold", ("y", ()), ("amount", 2), ("hold", ("z", ()), read_tree(
                "(given x (* x 2))"), ("hold", ("a", ()), ("amount", 0), ("hold", ("b", ()), ("amount", 5), grown_plain(
                    Picks(seed), 4)))))), ("amount", 3))
            try:
                value = worked_out(tree, {}, [500])
                expected = ("value", value if isinstance(value, int) else "given")
            except KeyError as error:
                expected = ("stuck", error.args[0])
            except OverflowError:
                continue
            end, _ = run_of(tree, 400)
            if end != ("stuck", "great"):
                counted[expected[0]] = counted.get(expected[0], 0) + 1
                self.assertEqual(end, expected)
        self.assertGreater(min(counted["value"], counted["stuck"]), 20)


class Programs(unittest.TestCase):
    def test_errors(self):
        for text in ("x", "(given x y)", A, "(given x@1 1)", "(make m)", "(hold x x 1)"):
            self.assertRaises(InvalidProgram, step_of, read_tree(text))
            self.assertRaises(InvalidProgram, run_of, read_tree(text), None)
            self.assertFalse(is_program(read_tree(text)))
        for value in (None, ("use", "x"), chain(61)):
            self.assertRaises(InvalidTree, step_of, value)
            self.assertRaises(InvalidTree, run_of, value, None)

    def test_plain_trees_with_any_words_are_programs(self):
        self.assertTrue(is_program(read_tree("(given q (hold p q p))")))


class Shown(unittest.TestCase):
    def test_shown(self):
        for text, end in ((A, ("value", 1)), (B, ("value", 3)), (C, ("value", 6)), (D, ("value", 0)), (F, ("value", 91)),
                          ("(make m)", ("stopped", (), "maker")), ("(+ 1 (make m))", ("stopped", (1,), "maker")),
                          ("(maker m (row () 1) (make m 2))", ("stopped", (1,), "row")),
                          ("(maker m (row () (make m)) (make m))", ("stopped", (1,), "great")),
                          ("(maker m (row () 1) (+ 1 m))", ("wanting", (1, 1))),
                          ("(+ y (+ x@3 y))", ("free", ("x", "y"))), ("(given x (+ x y))", ("free", ("y",))),
                          ("(maker m (row () x) (+ (make m) y))", ("free", ("x", "y"))),
                          ("(given x x)", ("value", "given")), ("(apply 1 2)", ("stuck", "apply")), (LOOP, ("more",))):
            self.assertEqual(shown_by(read_tree(text), 40), end, text)

    def test_stops_ahead_of_free_words(self):
        self.assertEqual(shown_by(read_tree("(+ x (make m))"), 9), ("stopped", (1,), "maker"))
        self.assertEqual(shown_by(read_tree("(maker m (row () 1) (+ x m))"), 9), ("wanting", (1, 1)))

    def test_numbers_of_steps(self):
        self.assertEqual(shown_by(read_tree(A), 1), ("more",))
        self.assertEqual(shown_by(read_tree(A), 2), ("value", 1))
        self.assertEqual(shown_by(read_tree("(+ x 1)"), 0), ("free", ("x",)))


if __name__ == "__main__":
    unittest.main()
