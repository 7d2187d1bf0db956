"""Points [11] and [51], and of point [3] what it says of plain names and of orders of making."""

import unittest

from namesapart.errors import InvalidTree, InvalidWork
from namesapart.makings import made_by, made_once, outermost_uses
from namesapart.plain import are_alike, is_made, plain_tree, with_plain_names
from namesapart.running import is_program
from namesapart.texts import tree_text
from namesapart.trees import all_paths, is_plain, part_at
from namesapart.words import spelled
from tests.growing import A, B, C, D, E, F, Picks, chain, grown_tree, read_tree


def made(text, order=()):
    return made_by((read_tree(text), ()), order)[1]


def plain_text(text):
    told = plain_tree((read_tree(text), ()))
    return told if told[0] == "wanting" else tree_text(told)


def alike_by_hand(one, other, known, others):
    """Whether plain trees are alike, told by how far away binders are."""
    if one[0] != other[0] or len(one) != len(other):
        return False
    kind = one[0]
    if kind == "use":
        places = [known[::-1].index(one[1]) if one[1] in known else one[1][0],
                  others[::-1].index(other[1]) if other[1] in others else other[1][0]]
        return places[0] == places[1]
    if kind == "amount":
        return one == other
    if kind == "given":
        return alike_by_hand(one[2], other[2], known + [one[1]], others + [other[1]])
    if kind == "hold":
        return (alike_by_hand(one[2], other[2], known, others)
                and alike_by_hand(one[3], other[3], known + [one[1]], others + [other[1]]))
    first = 2 if kind == "reckon" else 1
    if one[:first] != other[:first]:
        return False
    return all([alike_by_hand(a, b, known, others) for a, b in zip(one[first:], other[first:])])


def grown_plain(picks, left):
    name = (picks.one_of("xyzab"), ())
    if left == 0 or picks.below(5) == 0:
        return ("use", name)
    kind = picks.one_of(("given", "hold", "apply", "reckon"))
    if kind == "given":
        return (kind, name, grown_plain(picks, left - 1))
    one, two = grown_plain(picks, left - 1), grown_plain(picks, left - 1)
    return {"hold": (kind, name, one, two), "apply": (kind, one, two), "reckon": (kind, "+", one, two)}[kind]


class Made(unittest.TestCase):
    def test_is_made(self):
        for text, expected in (("1", True), (A, False), ("(maker m (row () (make m)) 1)", True), ("(make m)", False),
                               ("(+ 1 (given x (make m)))", False)):
            self.assertIs(is_made((read_tree(text), ())), expected)

    def test_not_made(self):
        for text in (A, "(make m)", "(maker m (row () 1) (make m))"):
            self.assertRaises(InvalidWork, plain_tree, (read_tree(text), ()))


class Wanting(unittest.TestCase):
    def test_first_path(self):
        self.assertEqual(plain_text("(maker m (row () 1) m)"), ("wanting", (1,)))
        self.assertEqual(plain_text("(maker m (row () m) (hold x m (+ x m)))"), ("wanting", (1, 0)))
        self.assertEqual(plain_text("(maker m (row () m) (hold m 1 (+ m m)))"), "(hold a 1 (+ a a))")
        self.assertEqual(plain_text("(maker m (row () m) 1)"), "1")
        self.assertEqual(plain_text("(+ m (maker m (row () 1) 2))"), "(+ m 2)")

    def test_brought_along(self):
        self.assertEqual(plain_tree(made("(maker m (row () (+ 1 m)) (make m))")), ("wanting", (1, 1)))
        self.assertEqual(plain_tree(made("(maker m (row (any:e) ?e) (make m m))")), ("wanting", (1,)))


class PlainNames(unittest.TestCase):
    def test_order_of_the_text(self):
        for text, plain in (("(given z z)", "(given a a)"), ("(given x (given y (apply x y)))",
                                                           "(given a (given b (apply a b)))"),
                            ("(hold x (given y y) (given z (apply z x)))", "(hold a (given b b) (given c (apply c a)))"),
                            ("(+ (hold x 1 x) (hold x 2 x))", "(+ (hold a 1 a) (hold b 2 b))"),
                            ("(test (given p p) (given q q) (hold r r r))", "(test (given a a) (given b b) (hold c r c))")):
            self.assertEqual(plain_text(text), plain)
            self.assertEqual(tree_text(with_plain_names(read_tree(text))), plain)

    def test_words_of_free_names_are_left_out(self):
        for text, plain in (("(given x (+ a x))", "(given b (+ a b))"), ("(given a (+ a x))", "(given a (+ a x))"),
                            ("(given x (given y (+ b (apply x y))))", "(given a (given c (+ b (apply a c))))"),
                            ("(+ a (given a a))", "(+ a (given b b))"),
                            ("(+ a@1 (given x x))", "(+ a (given b b))")):
            self.assertEqual(plain_text(text), plain)

    def test_words_in_rows_are_not_left_out(self):
        self.assertEqual(plain_text("(maker m (row (word:a) (+ b c)) (given x x))"), "(given a a)")

    def test_marks_keep_names_apart(self):
        self.assertEqual(plain_text("(hold x 1 (hold x@1 2 (+ x x@1)))"), "(hold a 1 (hold b 2 (+ a b)))")
        self.assertEqual(plain_text("(hold x 1 (hold x@1 2 (+ x x@2)))"), "(hold a 1 (hold b 2 (+ a x)))")

    def test_makers_become_their_bodies(self):
        self.assertEqual(plain_text("(maker m (row () 1) (maker k (row () 2) (given x (maker j (row () 3) x))))"),
                         "(given a a)")

    def test_words_behind_z(self):
        def words_of(many):
            trees = [chain(50)] * (many // 49) + [chain(1 + many % 49)]
            while len(trees) > 1:
                trees = trees[2:] + [("apply", *trees[:2])]
            tree = trees[0]
            told = with_plain_names(tree)
            return [part_at(told, path)[1][0] for path in all_paths(told) if part_at(told, path)[0] == "given"]
        self.assertEqual(words_of(29)[24:], ["y", "z", "aa", "ab", "ac"])
        self.assertEqual(words_of(800)[700:704], ["zy", "zz", "aaa", "aab"])

    def test_spelled_words_and_those_that_are_none(self):
        self.assertEqual([spelled(number) for number in (0, 25, 26, 51, 52, 701, 702, 703)],
                         ["a", "z", "aa", "az", "ba", "zz", "aaa", "aab"])
        self.assertEqual(spelled(26 + 26 * 26 + 13 * 26 + 24), "any")
        from namesapart.words import first_words
        words = first_words(1200, [])
        self.assertNotIn("any", words)
        self.assertEqual(words[words.index("anx") + 1], "anz")

    def test_plain_trees_are_plain(self):
        for text in (A, B, C, D, F):
            told = plain_tree(made(text))
            self.assertTrue(is_plain(told))
            self.assertEqual(with_plain_names(told), told)

    def test_examples_of_making(self):
        self.assertEqual(tree_text(plain_tree(made(D))), "(hold a 0 (hold b 1 a))")
        self.assertEqual(made_by((read_tree(E), ()), ())[2], "row")

    def test_brought_names_by_hand(self):
        # The inner maker is brought by one making, its form by another one: w means the outer hold in both.
        self.assertEqual(tree_text(plain_tree(made(F))), "(hold a 7 (hold b 3 (hold c (+ (+ b a) b) (* c a))))")

    def test_swapped_names(self):
        text = """(maker or (row (any:e any:f) (hold t ?e (test t t ?f)))
            (hold t 5 (make or 0 (make or t 1))))"""
        self.assertEqual(tree_text(plain_tree(made(text))),
                         "(hold a 5 (hold b 0 (test b b (hold c a (test c c 1)))))")


class Alike(unittest.TestCase):
    def test_alike(self):
        for one, other, expected in (("(given x x)", "(given y y)", True), ("(given x y)", "(given y y)", False),
                                     ("(given x y)", "(given z y)", True), ("(given x y)", "(given x z)", False),
                                     ("(given x (given x x))", "(given x (given y y))", True),
                                     ("(given x (given y x))", "(given x (given y y))", False),
                                     ("(hold x x x)", "(hold y x y)", True), ("(hold x x x)", "(hold y y y)", False),
                                     ("1", "1", True), ("1", "2", False), ("(+ 1 2)", "(- 1 2)", False),
                                     ("(given a b)", "(given c b)", True), ("x", "x", True), ("x", "y", False)):
            self.assertIs(are_alike(read_tree(one), read_tree(other)), expected, (one, other))

    def test_alike_by_another_way(self):
        counted = {True: 0, False: 0}
        for seed in range(400):
            picks = Picks(seed)
            one, other = grown_plain(picks, 2), grown_plain(picks, 2)
            both = [(one, other)]
            both.append((one, with_plain_names(one)))
            for left, right in both:
                expected = alike_by_hand(left, right, [], [])
                counted[expected] += 1
                self.assertIs(are_alike(left, right), expected)
                self.assertIs(with_plain_names(left) == with_plain_names(right), expected)
        self.assertGreater(min(counted.values()), 100)

    def test_alike_small_trees(self):
        names = [("a", ()), ("b", ()), ("x", ())]
        bodies = [("use", name) for name in names] + [("given", one, ("use", two)) for one in names for two in names]
        trees = [("given", name, body) for name in names for body in bodies]
        for one in trees:
            for other in trees:
                self.assertIs(are_alike(one, other), alike_by_hand(one, other, [], []))

    def test_errors(self):
        for tree in (read_tree("x@1"), read_tree(A), None):
            self.assertRaises(InvalidTree, with_plain_names, tree)
            self.assertRaises(InvalidTree, are_alike, tree, ("amount", 1))
            self.assertRaises(InvalidTree, are_alike, ("amount", 1), tree)


class Orders(unittest.TestCase):
    """Of point [3]: orders of making come to the same plain tree."""

    def ends_of(self, tree, picks):
        """The ends of the first order and of some others, or less, if one is stopped by a bound."""
        results = [made_by((tree, ()), ())]
        for _ in range(3):
            work, order = (tree, ()), []
            while outermost_uses(work) and len(order) < 60:
                path = picks.one_of(outermost_uses(work))
                result = made_once(work, path)
                order.append(path)
                if result[0] == "stopped":
                    break
                work = result[1]
            results.append(made_by((tree, ()), tuple(order)))
        if any([result[0] == "stopped" and result[2] == "great" for result in results]):
            return []
        return results

    def test_orders(self):
        several, stopped = 0, 0
        for seed in range(400):
            tree = grown_tree(seed)
            results = self.ends_of(tree, Picks(seed))
            if not results:
                continue
            if any([result[0] == "stopped" for result in results]):
                self.assertTrue(all([result[0] == "stopped" for result in results]), tree_text(tree))
                stopped += 1
            else:
                plain = {repr(plain_tree(result[1])) for result in results}
                if plain_tree(results[0][1])[0] != "wanting":
                    self.assertEqual(len(plain), 1, tree_text(tree))
                several += len({repr(result[1]) for result in results}) > 1
        self.assertGreater(several, 30)
        self.assertGreater(stopped, 10)

    def test_orders_by_hand(self):
        text = """(hold t 9 (maker swap (row (any:a any:b) (hold t ?a (- ?b t)))
            (+ (make swap t (make swap 1 t)) (make swap 2 (make swap t 3)))))"""
        tree = read_tree(text)
        texts = set()
        for order in ((), ((1, 1, 1),), ((1, 1, 1), (1, 1, 0)), ((1, 1, 0), (1, 1, 0, 1, 0)),
                      ((1, 1, 1), (1, 1, 1, 1, 0), (1, 1, 0))):
            texts.add(tree_text(plain_tree(made_by((tree, ()), order)[1])))
        self.assertEqual(texts, {"(hold a 9 (+ (hold b a (- (hold c 1 (- a c)) b)) "
                                 "(hold d 2 (- (hold e a (- 3 e)) d))))"})


class Programs(unittest.TestCase):
    """Of point [11]: which plain trees are programs."""

    def test_programs(self):
        for text, expected in (("1", True), ("x", False), ("(given x x)", True), ("(given x y)", False),
                               ("(hold x x x)", False), ("(hold x 1 x)", True), (A, False), ("(given x@1 1)", False)):
            self.assertIs(is_program(read_tree(text)), expected)


if __name__ == "__main__":
    unittest.main()
