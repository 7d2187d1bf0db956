"""Points [38] to [40] and [72] to [75]: stores, deeds, trains, and what is made early."""

import unittest
from itertools import permutations, product

from namesapart.deeds import deed_done, is_deed, is_open, is_store, train_done, worked_out
from namesapart.early import early_done, early_paper, early_steps, is_early_paper
from namesapart.errors import InvalidDeed, InvalidDeeds, InvalidNumber, InvalidStep, InvalidStore, InvalidTree, InvalidWords, TooMany
from namesapart.exchanges import are_apart, are_apart_in, are_exchanged, exchanged_orders, unlike_store, words_asked
from namesapart.late import shown_early, shown_late, unlike_tree
from namesapart.plain import with_plain_names
from namesapart.running import is_program, run_of
from namesapart.texts import tree_text
from namesapart.trees import part_at, tree_depth, tree_size
from tests.growing import ODD_VALUES, Picks, broad, chain, read_tree

LIMIT = 10 ** 12
LOOP = "(apply (given a (apply a a)) (given b (apply b b)))"


def opened(text):
    """The open tree that has this text but for its names."""
    return with_plain_names(read_tree(text))


def of(word, text):
    """The deed of a word and of an open tree with this text."""
    return (word, opened(text))


def store(**cells):
    return tuple(sorted(cells.items()))


def put(tree, word, value):
    """The tree with a value put for the free uses of a word, told a second time."""
    if tree[0] == "use":
        return value if tree[1] == (word, ()) else tree
    if tree[0] == "given":
        return tree if tree[1] == (word, ()) else tree[:2] + (put(tree[2], word, value),)
    if tree[0] == "hold":
        return tree[:2] + (put(tree[2], word, value), tree[3] if tree[1] == (word, ()) else put(tree[3], word, value))
    return tuple([put(item, word, value) if isinstance(item, tuple) else item for item in tree])


def count_down(steps, left="0"):
    """An open tree that comes to what is left in so many steps, from 6 on."""
    number, more = divmod(steps - 4, 4)
    text = f"(hold f (given g (given n (test n (apply (apply g g) (- n 1)) {left}))) (apply (apply f f) {number}))"
    return opened((text, f"(+ 0 {text})", f"(+ 0 (+ 0 {text}))", f"(+ 0 (+ 0 (+ 0 {text})))")[more])


def grown_open(seed, words="wxyz", left=4):
    """An open tree with some free words."""
    picks = Picks(seed)

    def grown(left, scope):
        if left == 0 or picks.below(6) == 0:
            chosen = picks.below(5)
            if chosen == 0:
                return ("amount", picks.below(5) - 1)
            name = picks.one_of(scope) if scope and chosen < 3 else picks.one_of(words)
            return ("use", (name, ()))
        kind = picks.one_of(("given", "apply", "apply", "hold", "hold", "reckon", "reckon", "reckon", "test", "test"))
        word = picks.one_of("mno")
        if kind == "given":
            return (kind, (word, ()), grown(left - 1, scope + [word]))
        if kind == "hold":
            return (kind, (word, ()), grown(left - 1, scope), grown(left - 1, scope + [word]))
        if kind == "reckon":
            return (kind, picks.one_of("+-*"), grown(left - 1, scope), grown(left - 1, scope))
        if kind == "apply":
            return (kind, ("given", (word, ()), grown(left - 1, scope + [word])), grown(left - 1, scope))
        return (kind, *[grown(left - 1, scope) for _ in range(3)])
    return with_plain_names(grown(left, []))


def grown_deed(seed, words="wxyz"):
    return (words[seed % len(words)], grown_open(seed, words, 1 + seed % 3))


def grown_store(seed, words="wxyz"):
    picks = Picks(seed)
    return tuple([(word, picks.below(7) - 2) for word in words])


class Point38(unittest.TestCase):
    def test_stores(self):
        for value in ((), (("x", 0),), store(a=1, b=2, c=3, d=-4), (("x", LIMIT), ("y", -LIMIT)), (("b", 1), ("ba", 1))):
            self.assertIs(is_store(value), True, value)
        for value in (store(a=1, b=2, c=3, d=4, e=5), (("y", 0), ("x", 0)), (("x", 0), ("x", 0)), (("x", 0), ("x", 1)),
                      (("x", LIMIT + 1),), (("x", -LIMIT - 1),), (("x", True),), (("x", "1"),), (("x", None),), (("X", 1),),
                      (("row", 1),), (("", 1),), (("abcdefg", 1),), (("x",),), (("x", 1, 2),), [("x", 1)], (["x", 1],), ("x", 1),
                      ((("x", ()), 1),), {"x": 1}, (1,), None):
            self.assertIs(is_store(value), False, value)

    def test_open_trees(self):
        for text in ("x", "3", "(+ x y)", "(given a (+ a b))", "(hold b a (hold c b (+ c b)))", "(test x (given a a) (given b b))",
                     "(given b (given c (+ a c)))"):
            self.assertIs(is_open(read_tree(text)), True, text)
        for text in ("(given x x)", "(given b b)", "(given a (given a a))", "(hold b 1 b)", "(given a (given c a))",
                     "(test x (given b b) (given a a))", "(+ x@1 1)", "(given a@1 a@1)", "(make m)", "(maker m (row () 1) 2)"):
            self.assertIs(is_open(read_tree(text)), False, text)
        for value in ODD_VALUES:
            self.assertIs(is_open(value), False, value)

    def test_names_that_free_words_bar(self):
        self.assertIs(is_open(read_tree("(given a (+ a b))")), True)
        self.assertIs(is_open(read_tree("(given b (+ b a))")), True)
        self.assertIs(is_open(read_tree("(given c (+ c a))")), False)
        self.assertIs(is_open(read_tree("(given c (+ c (+ a b)))")), True)
        self.assertIs(is_open(("given", ("aa", ()), ("use", ("aa", ())))), False)

    def test_great_open_trees(self):
        self.assertIs(is_open(("given", ("a", ()), broad_sum(500))), True)
        self.assertIs(is_open(("given", ("a", ()), ("given", ("b", ()), broad_sum(500)))), False)
        self.assertIs(is_open(chain(61)), False)

    def test_programs_come_to_their_ends(self):
        for seed in range(200):
            tree = grown_open(seed, "x")
            if is_program(tree):
                self.assertEqual(worked_out(grown_store(seed), tree), (run_of(tree, 400)[0], []))

    def test_what_cells_have_comes_for_free_words(self):
        for seed in range(400):
            tree, cells = grown_open(seed), grown_store(seed)
            closed = tree
            for word, amount in cells:
                closed = put(closed, word, ("amount", amount))
            self.assertEqual(worked_out(cells, tree)[0], run_of(closed, 400)[0])

    def test_words_asked(self):
        cells = store(w=0, x=3, y=5, z=7)
        for text, end, words in (
                ("x", 3, ["x"]), ("(+ z x)", 10, ["x", "z"]), ("(+ x x)", 6, ["x"]), ("(test x y z)", 5, ["x", "y"]),
                ("(test w y z)", 7, ["w", "z"]), ("(given a x)", "given", []), ("(apply (given a a) y)", 5, ["y"]),
                ("(apply (given a 1) y)", 1, ["y"]), ("(hold a y 2)", 2, ["y"]), ("(hold a (given b z) x)", 3, ["x"]),
                ("(hold a (given b (+ z b)) (apply a x))", 10, ["x", "z"]), ("5", 5, []),
                ("(test x y nought)", 5, ["x", "y"]), ("(hold a (given b gone) 4)", 4, [])):
            self.assertEqual(worked_out(cells, opened(text)), (("value", end), words), text)

    def test_stuck(self):
        cells = store(w=0, x=3, y=LIMIT)
        for text, reason, words in (
                ("v", "free", []), ("(+ x v)", "free", ["x"]), ("(+ v x)", "free", []), ("(apply x v)", "free", ["x"]),
                ("(apply x y)", "apply", ["x", "y"]), ("(+ y x)", "great", ["x", "y"]), ("(* y 2)", "great", ["y"]),
                ("(+ x (given a y))", "reckon", ["x"]), ("(test (given a a) x y)", "test", []), ("(test w x v)", "free", ["w"])):
            self.assertEqual(worked_out(cells, opened(text)), (("stuck", reason), words), text)
        self.assertEqual(worked_out((), opened("(+ x 1)")), (("stuck", "free"), []))
        self.assertEqual(worked_out(cells, opened("(- y 0)")), (("value", LIMIT), ["y"]))

    def test_stuck_great_as_a_program_is(self):
        # Each application puts a function of such a size three times, until what comes is no tree.
        great = opened("(apply (given a (apply (apply a a) a)) (given a (apply (apply a a) a)))")
        self.assertEqual(run_of(great, 400)[0], ("stuck", "great"))
        self.assertEqual(worked_out(store(x=1), great), (("stuck", "great"), []))
        self.assertEqual(worked_out(store(x=1), opened("(hold b x " + tree_text(great) + ")")), (("stuck", "great"), ["x"]))

    def test_the_last_step(self):
        for steps in (398, 399, 400):
            tree = count_down(steps)
            self.assertEqual(run_of(tree, 400), (("value", 0), steps))
            self.assertEqual(worked_out((), tree), (("value", 0), []))
        self.assertEqual(run_of(count_down(401), 400), (("more",), 400))
        self.assertEqual(worked_out((), count_down(401)), (("more",), []))
        self.assertEqual(worked_out((), opened(LOOP)), (("more",), []))

    def test_asking_is_no_step(self):
        self.assertEqual(worked_out(store(x=7), count_down(400, "x")), (("value", 7), ["x"]))
        self.assertEqual(worked_out((), count_down(400, "x")), (("stuck", "free"), []))
        self.assertEqual(worked_out(store(x=7), count_down(401, "x")), (("more",), ["x"]))
        # A 401st step that is stuck is not done.
        self.assertEqual(worked_out(store(x=7), count_down(400, "(apply x 1)")), (("stuck", "apply"), ["x"]))
        self.assertEqual(worked_out(store(x=7), count_down(400, "(+ x 1)")), (("more",), ["x"]))

    def test_errors(self):
        self.assertRaises(InvalidStore, worked_out, (("x", 1), ("x", 1)), read_tree("(given x x)"))
        self.assertRaises(InvalidTree, worked_out, (), read_tree("(given x x)"))


class Point39(unittest.TestCase):
    def test_deeds(self):
        self.assertIs(is_deed(of("x", "(+ x 1)")), True)
        self.assertIs(is_deed(of("abcdef", "1")), True)
        for value in (("x", read_tree("(given x x)")), ("row", ("amount", 1)), ("x",), ("x", ("amount", 1), 1), ["x", ("amount", 1)],
                      ("X", ("amount", 1)), (("x", ()), ("amount", 1)), ("x", 1), (1, ("amount", 1)), ("x", read_tree("(make m)"))):
            self.assertIs(is_deed(value), False, value)

    def test_done(self):
        cells = store(x=3, y=0)
        self.assertEqual(deed_done(cells, of("y", "(* x 2)")), ("done", store(x=3, y=6)))
        self.assertEqual(deed_done(cells, of("x", "y")), ("done", store(x=0, y=0)))
        self.assertEqual(deed_done(cells, of("x", "x")), ("done", cells))

    def test_stopped(self):
        cells = store(x=3, y=LIMIT)
        for text, end in (("(given a a)", ("value", "given")), ("(apply x 1)", ("stuck", "apply")), (LOOP, ("more",)),
                          ("(+ x gone)", ("stuck", "free")), ("(+ x y)", ("stuck", "great"))):
            self.assertEqual(deed_done(cells, of("x", text)), ("stopped", end))
            self.assertEqual(deed_done(cells, of("z", text)), ("stopped", ("stuck", "cell")))
        self.assertEqual(deed_done((), of("x", "1")), ("stopped", ("stuck", "cell")))
        self.assertEqual(deed_done(store(x=1), ("x", count_down(400))), ("done", store(x=0)))
        self.assertEqual(deed_done(store(x=1), ("x", count_down(401))), ("stopped", ("more",)))

    def test_trains(self):
        cells, add, double = store(x=3, y=1), of("x", "(+ x y)"), of("y", "(* y 2)")
        self.assertEqual(train_done(cells, ()), ("done", cells))
        self.assertEqual(train_done(cells, (add, double, add)), ("done", store(x=6, y=2)))
        self.assertEqual(train_done(cells, (double, add, add)), ("done", store(x=7, y=2)))
        self.assertEqual(train_done(cells, (add,) * 5), ("done", store(x=8, y=1)))
        self.assertRaises(InvalidDeeds, train_done, cells, (add,) * 6)
        self.assertRaises(InvalidDeeds, train_done, cells, [add])
        self.assertRaises(InvalidDeeds, train_done, cells, (add, ("x", read_tree("(given x x)"))))

    def test_the_first_stop(self):
        cells, add = store(x=3, y=1), of("x", "(+ x y)")
        stuck, gone = of("y", "(apply x x)"), of("z", "1")
        self.assertEqual(train_done(cells, (add, stuck, gone)), ("stopped", ("stuck", "apply")))
        self.assertEqual(train_done(cells, (add, gone, stuck)), ("stopped", ("stuck", "cell")))
        self.assertEqual(train_done(cells, (add, add, add, add, of("x", "(given a a)"))), ("stopped", ("value", "given")))

    def test_words(self):
        self.assertEqual(words_asked(of("x", "(test y (+ z x) (hold x 1 x))")), ["x", "y", "z"])
        self.assertEqual(words_asked(of("x", "(given x x)")), [])
        self.assertEqual(words_asked(of("x", "(given a (+ a (+ c b)))")), ["b", "c"])

    def test_apart(self):
        for deed, other, told in (
                (of("x", "(+ x 1)"), of("y", "(* y 2)"), True), (of("x", "z"), of("y", "z"), True),
                (of("x", "1"), of("x", "1"), False), (of("x", "y"), of("y", "1"), False), (of("x", "1"), of("y", "x"), False),
                (of("x", "y"), of("y", "x"), False), (of("x", "(given y y)"), of("y", "1"), True),
                (of("x", "(test 0 y 1)"), of("y", "1"), False), (of("x", "1"), of("y", "2"), True)):
            self.assertIs(are_apart(deed, other), told)
            self.assertIs(are_apart(other, deed), told)

    def test_apart_in_a_store(self):
        asks, sets = of("x", "(test z y 1)"), of("y", "5")
        self.assertIs(are_apart(asks, sets), False)
        for cells, told in ((store(x=0, y=0, z=0), True), (store(x=0, y=0, z=1), False), (store(x=0, y=0), False),
                            (store(x=0, z=0), False), (store(y=0, z=0), False), ((), False)):
            self.assertIs(are_apart_in(cells, asks, sets), told, cells)
            self.assertIs(are_apart_in(cells, sets, asks), told, cells)
        cells = store(x=0, y=0, z=0)
        self.assertIs(are_apart_in(cells, asks, of("x", "3")), False)
        self.assertIs(are_apart_in(cells, of("x", "1"), of("y", "(apply 1 1)")), False)
        self.assertIs(are_apart_in(cells, of("x", "(apply 1 1)"), of("y", "1")), False)
        self.assertIs(are_apart_in(cells, of("x", "(given a a)"), of("y", "1")), False)

    def test_exchanged_orders(self):
        apart = tuple([of(word, "1") for word in "vwxyz"])
        self.assertEqual(exchanged_orders(apart), sorted(permutations(range(5))))
        self.assertEqual(len(exchanged_orders(apart)), 120)
        self.assertEqual(exchanged_orders((of("x", "1"),) * 5), [(0, 1, 2, 3, 4)])
        self.assertEqual(exchanged_orders(()), [()])
        self.assertEqual(exchanged_orders(apart[:1]), [(0,)])
        self.assertEqual(exchanged_orders((of("x", "1"), of("y", "1"), of("x", "2"))), [(0, 1, 2), (0, 2, 1), (1, 0, 2)])

    def test_exchanged_orders_by_exchanging(self):
        for seed in range(120):
            picks = Picks(seed)
            deeds = tuple([grown_deed(picks.below(1000), "vwxyz") for _ in range(picks.below(6))])
            found, todo = set(), [tuple(range(len(deeds)))]
            while todo:
                order = todo.pop()
                if order not in found:
                    found.add(order)
                    todo.extend([order[:at] + (order[at + 1], order[at]) + order[at + 2:] for at in range(len(order) - 1)
                                 if are_apart(deeds[order[at]], deeds[order[at + 1]])])
            self.assertEqual(exchanged_orders(deeds), sorted(found))
            for order in permutations(range(len(deeds))):
                train = tuple([deeds[index] for index in order])
                told = train in [tuple([deeds[index] for index in one]) for one in found]
                self.assertIs(are_exchanged(deeds, train), told)

    def test_exchanged_trains(self):
        one, two, same = of("x", "1"), of("y", "z"), of("x", "2")
        self.assertIs(are_exchanged((), ()), True)
        self.assertIs(are_exchanged((one,), (one,)), True)
        self.assertIs(are_exchanged((one, two), (two, one)), True)
        self.assertIs(are_exchanged((one, same), (same, one)), False)
        self.assertIs(are_exchanged((one, two), (one,)), False)
        self.assertIs(are_exchanged((one,), (one, two)), False)
        self.assertIs(are_exchanged((one, two), (two, same)), False)
        self.assertIs(are_exchanged((one, one), (one, one)), True)
        self.assertIs(are_exchanged((one, one, two), (one, two, two)), False)

    def test_unlike_stores(self):
        add, set_y = of("x", "(+ x y)"), of("y", "2")
        self.assertIsNone(unlike_store(of("x", "1"), of("y", "2"), 3))
        found = unlike_store(add, set_y, 0)
        self.assertEqual(found, store(x=0, y=0))
        # Only where y is 3 do both orders not tell the same.
        rare = of("x", "(test (* (- y 1) (* (- y 2) y)) 7 8)")
        keeps = of("y", "(test (- y 3) y 2)")
        self.assertIsNone(unlike_store(rare, keeps, 2))
        found = unlike_store(rare, keeps, 3)
        self.assertEqual(dict(found)["y"], 3)

    def test_unlike_stops(self):
        for deed, other in ((of("x", "(apply y y)"), of("y", "(given a a)")), (of("x", "(given a a)"), of("y", LOOP))):
            found = unlike_store(deed, other, 0)
            self.assertNotEqual(train_done(found, (deed, other)), train_done(found, (other, deed)))
        self.assertIsNone(unlike_store(of("x", LOOP), of("y", LOOP), 3))

    def test_words_of_unlike_stores(self):
        four = (of("w", "(+ x y)"), of("y", "z"))
        found = unlike_store(*four, 1)
        self.assertEqual([word for word, _ in found], ["w", "x", "y", "z"])
        self.assertRaises(InvalidDeed, unlike_store, of("w", "(+ x y)"), of("y", "(+ v z)"), 1)
        self.assertIsNone(unlike_store(of("w", "(+ x y)"), of("w", "(+ x y)"), 1))

    def test_errors_of_unlike_stores(self):
        one, five = of("x", "1"), of("w", "(+ (+ x y) (+ u v))")
        for most in (4, 5, 100):
            with self.assertRaises(TooMany) as caught:
                unlike_store(one, one, most)
            self.assertEqual(caught.exception.limit, 3)
            self.assertRaises(InvalidDeed, unlike_store, one, five, most)
            self.assertRaises(InvalidDeed, unlike_store, five, one, most)
        for most in (-1, 101, True, None, "1"):
            self.assertRaises(InvalidNumber, unlike_store, one, five, most)
        self.assertRaises(InvalidDeed, unlike_store, 1, one, -1)
        self.assertRaises(InvalidDeed, unlike_store, one, 1, -1)
        self.assertIsNone(unlike_store(one, one, 3))

    def test_unlike_stores_are_told_if_there_are_any(self):
        told = [0, 0]
        for seed in range(150):
            deed, other = grown_deed(seed, "xy"), grown_deed(seed * 31 + 7, "xyz")
            words = sorted({deed[0], other[0], *words_asked(deed), *words_asked(other)})
            stores = [tuple(zip(words, amounts)) for amounts in product(range(3), repeat=len(words))]
            unlike = [one for one in stores if train_done(one, (deed, other)) != train_done(one, (other, deed))]
            found = unlike_store(deed, other, 2)
            if found is None:
                self.assertEqual(unlike, [])
            else:
                self.assertIn(found, unlike)
            told[found is None] += 1
        self.assertGreater(min(told), 20)


class Point40(unittest.TestCase):
    def steps(self, text, **known):
        return early_steps(opened(text), store(**known))

    def behind(self, text, word, path, **known):
        return tree_text(early_done(opened(text), store(**known), (word, path)))

    def test_known(self):
        self.assertEqual(self.steps("(+ x (given a (* x y)))", x=3), [("known", (0,)), ("known", (1, 0, 0))])
        self.assertEqual(self.behind("(+ x x)", "known", (1,), x=3), "(+ x 3)")
        self.assertEqual(self.behind("x", "known", (), x=-3), "-3")
        self.assertEqual(self.steps("(+ x y)", z=1), [])
        # A bound name is no free word, whatever the cells.
        self.assertEqual(self.steps("(given a a)", a=3), [])

    def test_fold(self):
        self.assertEqual(self.steps("(+ 1 (* 2 3))"), [("fold", (1,))])
        self.assertEqual(self.behind("(+ 1 (* 2 3))", "fold", (1,)), "(+ 1 6)")
        self.assertEqual(self.behind("(- 1 3)", "fold", ()), "-2")
        self.assertEqual(self.steps(f"(+ {LIMIT} 1)"), [])
        self.assertEqual(self.steps(f"(- {LIMIT} 0)"), [("fold", ())])
        self.assertEqual(self.steps("(+ 1 x)"), [])
        self.assertEqual(self.steps("(+ 1 (given a a))"), [])

    def test_choose(self):
        self.assertEqual(self.behind("(test 2 x y)", "choose", ()), "x")
        self.assertEqual(self.behind("(test 0 x y)", "choose", ()), "y")
        self.assertEqual(self.behind("(test -1 x y)", "choose", ()), "x")
        self.assertEqual(self.steps("(test x 1 2)"), [])
        self.assertEqual(self.steps("(test 2 x y)"), [("choose", ())])
        self.assertEqual(self.steps("(test (given a a) 1 2)"), [])

    def test_bind(self):
        self.assertEqual(self.steps("(apply (given a (+ a a)) (+ x y))"), [("bind", ())])
        self.assertEqual(self.behind("(apply (given a (+ a a)) (+ x y))", "bind", ()), "(hold a (+ x y) (+ a a))")
        self.assertEqual(self.behind("(given a (apply (given b (+ a b)) a))", "bind", (0,)), "(given a (hold b a (+ a b)))")
        self.assertEqual(self.steps("(apply x 1)"), [])
        self.assertEqual(self.steps("(apply 1 (given a a))"), [])

    def test_bind_gives_names_anew(self):
        # In the text the given of the two stands ahead of the body of the first one behind the step, not in front of it.
        tree = opened("(apply (given a (given b (+ a b))) (given c c))")
        self.assertEqual(tree_text(tree), "(apply (given a (given b (+ a b))) (given c c))")
        self.assertEqual(tree_text(early_done(tree, (), ("bind", ()))), "(hold a (given b b) (given c (+ a c)))")

    def test_put(self):
        self.assertEqual(self.behind("(hold a 3 (+ a a))", "put", ()), "(+ 3 3)")
        self.assertEqual(self.behind("(hold a x (+ a a))", "put", ()), "(+ x x)")
        self.assertEqual(self.behind("(hold a (given b x) (apply a (apply a 1)))", "put", ()),
                         "(apply (given a x) (apply (given b x) 1))")
        self.assertEqual(self.behind("(given a (hold b a (given c (+ b c))))", "put", (0,)), "(given a (given b (+ a b)))")
        self.assertEqual(self.steps("(hold a (+ x 1) (+ a a))"), [])
        self.assertEqual(self.steps("(hold a (apply x y) 1)"), [])

    def test_drop(self):
        self.assertEqual(self.steps("(hold a 3 x)"), [("drop", ()), ("put", ())])
        self.assertEqual(self.steps("(hold a 3 a)"), [("put", ())])
        self.assertEqual(self.behind("(hold a y x)", "drop", ()), "x")
        self.assertEqual(self.behind("(hold a (given b b) (given c x))", "drop", ()), "(given a x)")
        self.assertEqual(self.behind("(hold a 3 x)", "put", ()), "x")
        self.assertEqual(self.steps("(hold a (+ 1 x) x)"), [])
        self.assertEqual(self.steps("(hold a 3 (given b (given c a)))"), [("put", ())])

    def test_names_behind_a_step(self):
        # A free word that is left no longer bars its letter.
        self.assertEqual(self.behind("(given b (+ a b))", "known", (0, 0), a=1), "(given a (+ 1 a))")
        self.assertEqual(self.behind("(given b (test 0 a b))", "choose", (0,)), "(given a a)")
        self.assertEqual(self.behind("(hold a 1 (given b b))", "put", ()), "(given a a)")

    def test_what_would_be_no_tree(self):
        # The size behind is 3 + 2 * 498 + 1 and 3 + 2 * 499 + 1 without the hold.
        for size, told in ((497, True), (498, True), (499, False)):
            tree = ("hold", ("a", ()), ("given", ("b", ()), broad(size - 1)),
                    ("reckon", "+", ("use", ("a", ())), ("apply", ("use", ("a", ())), ("amount", 1))))
            tree = with_plain_names(tree)
            self.assertEqual(tree_size(tree), size + 6)
            self.assertIs(("put", ()) in early_steps(tree, ()), told)
            if told:
                self.assertEqual(tree_size(early_done(tree, (), ("put", ()))), 3 + 2 * size)
            else:
                self.assertRaises(InvalidStep, early_done, tree, (), ("put", ()))

    def test_what_would_be_too_deep(self):
        for depth, told in ((50, True), (51, False)):
            use = ("use", ("x", ()))
            body = use
            for _ in range(10):
                body = ("given", ("y", ()), body)
            tree = with_plain_names(("hold", ("x", ()), chain(depth), body))
            self.assertIs(("put", ()) in early_steps(tree, ()), told)
            if told:
                self.assertEqual(tree_depth(early_done(tree, (), ("put", ()))), 60)

    def test_steps_ascend(self):
        for seed in range(100):
            tree, known = grown_open(seed), grown_store(seed)[seed % 4:]
            steps = early_steps(tree, known)
            self.assertEqual(steps, sorted(set(steps)))
            for step in steps:
                behind = early_done(tree, known, step)
                self.assertIs(is_open(behind), True)
                self.assertNotEqual(part_at(tree, step[1])[0], "given")

    def test_errors_of_steps(self):
        tree = opened("(hold a 3 (+ a x))")
        for step in (("put", (1,)), ("puts", ()), ("put", (0, 0)), ("put", [()]), ["put", ()], ("put",), ("put", (), ()), None,
                     ("known", (1, 1)), ("drop", ()), ("put", (True,)), (1, ()), ((), ()), ("fold", ()), ("put", None)):
            self.assertRaises(InvalidStep, early_done, tree, (), step)
        self.assertEqual(tree_text(early_done(tree, store(x=1), ("known", (1, 1)))), "(hold a 3 (+ a 1))")

    def test_papers(self):
        tree, known = opened("(hold a (* x 2) (test y (+ a z) 0))"), store(x=3, y=1)
        steps = (("known", (0, 0)), ("fold", (0,)))
        behind = opened("(hold a 6 (test y (+ a z) 0))")
        self.assertIs(is_early_paper(tree, known, ((), tree)), True)
        self.assertIs(is_early_paper(tree, known, (steps, behind)), True)
        for value in ((steps, tree), (steps[::-1], behind), (list(steps), behind), (steps, behind, 1), [steps, behind], (steps,),
                      (steps + (("put", (9,)),), behind), (steps + (1,), behind), None, (steps, None), (steps, list(behind)),
                      (None, behind), ((("known", (0, 0)),), behind)):
            self.assertIs(is_early_paper(tree, known, value), False, value)
        self.assertIs(is_early_paper(tree, (), (steps, behind)), False)
        self.assertIs(is_early_paper(("amount", 1), (), ((), ("amount", 1))), True)
        self.assertIs(is_early_paper(("amount", 1), (), ((), ("amount", True))), False)

    def test_great_papers(self):
        # "bind" and "put" of such a tree lead to itself.
        tree = opened(LOOP)
        turn = (("bind", ()), ("put", ()))
        for many in (0, 1, 50):
            self.assertIs(is_early_paper(tree, (), (turn * many, tree)), True)
        self.assertIs(is_early_paper(tree, (), (turn * 51, tree)), False)
        self.assertIs(is_early_paper(tree, (), (turn * 50 + turn[:1], early_done(tree, (), turn[0]))), False)

    def test_early_papers(self):
        for seed in range(150):
            tree, known = grown_open(seed), grown_store(seed)[seed % 4:]
            for most in (0, 1, 3, 100):
                paper = early_paper(tree, known, most)
                self.assertIs(is_early_paper(tree, known, paper), True)
                self.assertLessEqual(len(paper[0]), most)
                self.assertIs(type(paper[0]), tuple)
                if len(paper[0]) < most:
                    for word, path in early_steps(paper[1], known):
                        inside = any([part_at(paper[1], path[:at])[0] == "given" for at in range(len(path))])
                        self.assertTrue(word == "bind" or inside)

    def test_no_step_is_left_out(self):
        self.assertEqual(early_paper(opened("(given a (+ 1 2))"), (), 0), ((), opened("(given a (+ 1 2))")))
        self.assertEqual(early_paper(opened("(+ (+ 1 2) 3)"), (), 100)[1], ("amount", 6))
        self.assertEqual(early_paper(opened("(+ x y)"), store(x=1, y=2), 100)[1], ("amount", 3))
        self.assertEqual(len(early_paper(broad_sum(200), (), 100)[0]), 100)
        for most in (-1, 101, True, None):
            self.assertRaises(InvalidNumber, early_paper, opened("x"), (), most)

    def test_the_same_end(self):
        """Point [3]: a tree and what an early paper leaves of it come to the same end in a store with all free words."""
        shown = 0
        for seed in range(400):
            tree, cells = grown_open(seed), grown_store(seed)
            picks = Picks(seed)
            known = tuple([cell for cell in cells if picks.below(2)])
            behind, path = tree, []
            for _ in range(picks.below(12)):
                steps = early_steps(behind, known)
                if steps:
                    path.append(picks.one_of(steps))
                    behind = early_done(behind, known, path[-1])
            self.assertIs(is_early_paper(tree, known, (tuple(path), behind)), True)
            for left in (behind, early_paper(tree, known, 100)[1]):
                ends = [worked_out(cells, tree)[0], worked_out(cells, left)[0]]
                if ("stuck", "great") not in ends and ("more",) not in ends:
                    self.assertEqual(ends[0], ends[1])
                    shown += ends[0][0] == "value"
        self.assertGreater(shown, 200)


def broad_sum(many):
    """A sum of so many ones."""
    tree = ("amount", 1)
    rows = [tree] * many
    while len(rows) > 1:
        rows = [("reckon", "+", *rows[at:at + 2]) if at + 1 < len(rows) else rows[at] for at in range(0, len(rows), 2)]
    return rows[0]


class Point75(unittest.TestCase):
    def setUp(self):
        self.cells = store(x=3, y=1)
        self.deeds = (of("x", "(+ x 1)"), of("y", "(* x 2)"), of("x", "0"))
        self.tree = opened("(+ (* x 10) y)")

    def test_late(self):
        for many, end in ((0, 31), (1, 41), (2, 48), (3, 8)):
            self.assertEqual(shown_late(self.cells, self.deeds[:many], self.tree), ("value", end))
        self.assertEqual(shown_late(self.cells, self.deeds, opened(LOOP)), ("more",))
        self.assertEqual(shown_late(self.cells, self.deeds, opened("z")), ("stuck", "free"))
        self.assertEqual(shown_late(self.cells, self.deeds, opened("(given a a)")), ("value", "given"))
        self.assertEqual(shown_late(self.cells, (), ("amount", 1)), ("value", 1))

    def test_early(self):
        for at, both, first, second in ((0, 31, 38, 1), (1, 41, 48, 1), (2, 48, 48, 8), (3, 8, 8, 8)):
            self.assertEqual(shown_early(self.cells, self.deeds, at, ("x", "y"), self.tree), ("value", both))
            self.assertEqual(shown_early(self.cells, self.deeds, at, ("x",), self.tree), ("value", first))
            self.assertEqual(shown_early(self.cells, self.deeds, at, ("y",), self.tree), ("value", second))
            self.assertEqual(shown_early(self.cells, self.deeds, at, (), self.tree), ("value", 8))

    def test_words_that_are_no_cells(self):
        self.assertEqual(shown_early(self.cells, self.deeds, 0, ("z",), self.tree), ("value", 8))
        self.assertEqual(shown_early(self.cells, self.deeds, 0, ("x", "z"), opened("(+ x z)")), ("stuck", "free"))
        self.assertEqual(shown_early(self.cells, self.deeds, 0, ("x", "z"), opened("(test x 1 z)")), ("value", 1))
        self.assertIsNone(unlike_tree(self.cells, self.deeds, 0, ("z",)))

    def test_bound_names_stay(self):
        tree = opened("(hold a 5 (+ a x))")
        self.assertEqual(shown_early(store(a=9, x=1), (), 0, ("a", "x"), tree), ("value", 6))
        self.assertEqual(shown_early(store(x=1), (of("x", "2"),), 0, ("x",), opened("(hold a (given b x) (apply a 0))")), ("value", 1))

    def test_stopped_trains(self):
        stuck = self.deeds + (of("x", "(apply 1 1)"),)
        for at in range(5):
            self.assertEqual(shown_early(self.cells, stuck, at, ("x",), self.tree), ("stopped", ("stuck", "apply")))
            self.assertIsNone(unlike_tree(self.cells, stuck, at, ("x", "y")))
        self.assertEqual(shown_late(self.cells, stuck, self.tree), ("stopped", ("stuck", "apply")))
        self.assertEqual(shown_late(self.cells, (of("x", "(given a a)"),), self.tree), ("stopped", ("value", "given")))
        self.assertEqual(shown_early(self.cells, (of("x", LOOP),), 0, ("x",), self.tree), ("stopped", ("more",)))

    def test_unlike_trees(self):
        for at, words, told in ((0, ("x",), True), (0, ("y",), True), (1, ("x",), True), (2, ("y",), False), (3, ("x", "y"), False),
                                (0, (), False), (2, ("x", "y"), True), (2, ("x",), True)):
            found = unlike_tree(self.cells, self.deeds, at, words)
            self.assertIs(found is not None, told, (at, words))
            if told:
                self.assertIs(is_open(found), True)
                self.assertNotEqual(shown_early(self.cells, self.deeds, at, words, found), shown_late(self.cells, self.deeds, found))

    def test_an_amount_that_comes_back(self):
        deeds = (of("x", "9"), of("x", "3"))
        self.assertIsNone(unlike_tree(self.cells, deeds, 0, ("x",)))
        self.assertIsNotNone(unlike_tree(self.cells, deeds, 1, ("x",)))

    def test_errors(self):
        for at in (-1, 4, True, None):
            self.assertRaises(InvalidNumber, shown_early, self.cells, self.deeds, at, ("y", "x"), self.tree)
            self.assertRaises(InvalidNumber, unlike_tree, self.cells, self.deeds, at, ("y", "x"))
        for words in (("y", "x"), ("x", "x"), ("v", "w", "x", "y", "z"), ["x"], ("X",), ("row",), (1,), None, "xy"):
            self.assertRaises(InvalidWords, shown_early, self.cells, self.deeds, 3, words, None)
            self.assertRaises(InvalidWords, unlike_tree, self.cells, self.deeds, 3, words)
        self.assertEqual(shown_early(self.cells, self.deeds, 3, ("w", "x", "y", "z"), self.tree), ("value", 8))

    def test_early_and_late(self):
        """Point [3]: the same is shown if no deed behind sets one of the words to another amount, else not by some tree."""
        told = [0, 0]
        for seed in range(600):
            picks = Picks(seed)
            cells = grown_store(seed)[:2 + seed % 3]
            deeds = tuple([grown_deed(picks.below(2000)) for _ in range(1 + picks.below(3))])
            words = tuple([word for word in "wxyz" if picks.below(2)])
            at = picks.below(len(deeds) + 1)
            early, late = train_done(cells, deeds[:at]), train_done(cells, deeds)
            found = unlike_tree(cells, deeds, at, words)
            changed = late[0] == "done" and any([dict(early[1])[word] != amount for word, amount in late[1] if word in words])
            self.assertIs(found is not None, changed)
            if found is not None:
                self.assertNotEqual(shown_early(cells, deeds, at, words, found), shown_late(cells, deeds, found))
            for other in range(5):
                tree = grown_open(seed * 5 + other)
                if not changed:
                    self.assertEqual(shown_early(cells, deeds, at, words, tree), shown_late(cells, deeds, tree))
            told[changed] += late[0] == "done"
        self.assertGreater(min(told), 40)


class Exchanges(unittest.TestCase):
    """Point [3]: deeds that are apart, and trains that are exchanged, come to the same."""

    def test_apart_in_a_store(self):
        told = 0
        for seed in range(600):
            cells, deed, other = grown_store(seed), grown_deed(seed * 7), grown_deed(seed * 13 + 5)
            if are_apart_in(cells, deed, other):
                self.assertEqual(train_done(cells, (deed, other)), train_done(cells, (other, deed)))
                self.assertEqual(train_done(cells, (deed, other))[0], "done")
                told += not are_apart(deed, other)
        self.assertGreater(told, 10)

    def test_apart(self):
        told = 0
        for seed in range(400):
            deed, other = grown_deed(seed * 3, "wx"), grown_deed(seed * 11 + 2, "yz" if seed % 2 else "wxyz")
            if are_apart(deed, other):
                for cells in (grown_store(seed), grown_store(seed + 1), grown_store(seed)[1:]):
                    ends = [train_done(cells, (deed, other)), train_done(cells, (other, deed))]
                    if ends[0][0] == "done":
                        told += 1
                        self.assertEqual(ends[0], ends[1])
                self.assertIn(unlike_store(deed, other, 1), [None] + stopped_stores(deed, other, 1))
        self.assertGreater(told, 100)

    def test_exchanged(self):
        told = 0
        for seed in range(150):
            picks = Picks(seed)
            deeds = tuple([grown_deed(picks.below(3000)) for _ in range(3 + picks.below(3))])
            ends = [train_done(grown_store(seed), tuple([deeds[index] for index in order])) for order in exchanged_orders(deeds)]
            if any([end[0] == "done" for end in ends]):
                told += len(ends) > 1
                self.assertEqual(ends, [ends[0]] * len(ends))
        self.assertGreater(told, 20)


def stopped_stores(deed, other, most):
    """The stores in which one of two deeds is stopped, by the words of both."""
    words = sorted({deed[0], other[0], *words_asked(deed), *words_asked(other)})
    stores = [tuple(zip(words, amounts)) for amounts in product(range(most + 1), repeat=len(words))]
    return [cells for cells in stores if train_done(cells, (deed, other))[0] == "stopped"]


if __name__ == "__main__":
    unittest.main()
