"""Points [7], [8] and [49]: binders, works, and what names mean."""

import unittest

from namesapart.makings import made_by, made_once, outermost_uses, row_for
from namesapart.meanings import binder_of, free_words, fresh_work, is_work, mean_same
from namesapart.shapes import part_by, placed_parts
from namesapart.trees import all_paths
from tests.growing import A, E, F, chain, grown_tree, read_tree


def meant(text, path, name="x", marks=(), makings=()):
    return binder_of((read_tree(text), makings), path, (name, marks))


class Point7(unittest.TestCase):
    def test_given(self):
        self.assertEqual(meant("(given x x)", (0,)), ())
        self.assertIsNone(meant("(given x x)", ()))
        self.assertIsNone(meant("(given y x)", (0,)))

    def test_hold_binds_in_its_body_alone(self):
        self.assertEqual(meant("(hold x x x)", (1,)), ())
        self.assertIsNone(meant("(hold x x x)", (0,)))
        self.assertEqual(meant("(hold x 1 (hold x x x))", (1, 0)), ())

    def test_maker_binds_in_its_body_and_all_its_rows(self):
        text = "(maker x (row () x) (row (any:e) x) x)"
        for path in ((0,), (1,), (2,)):
            self.assertEqual(meant(text, path), ())
        self.assertIsNone(meant(text, ()))

    def test_others_bind_nothing(self):
        for text in ("(make x x)", "(apply x x)", "(+ x x)", "(test x x x)"):
            self.assertIsNone(meant(text, (0,)))


class Point8(unittest.TestCase):
    def test_nearest_binder(self):
        self.assertEqual(meant("(hold x 1 (given x (+ x 1)))", (1, 0, 0)), (1,))
        self.assertEqual(meant("(hold x 1 (given y (+ x 1)))", (1, 0, 0)), ())

    def test_the_same_marks(self):
        text = "(hold x@1 1 (hold x@2 2 (hold x@1@2 3 (hold x 4 0))))"
        for marks, path in (((1,), ()), ((2,), (1,)), ((1, 2), (1, 1)), ((), (1, 1, 1))):
            self.assertEqual(meant(text, (1, 1, 1, 1), "x", marks), path)
        self.assertIsNone(meant(text, (1, 1, 1, 1), "x", (3,)))

    def test_last_mark_leads_to_the_maker(self):
        text = "(hold x 1 (maker m (row () x) (hold x 2 (+ x x))))"
        self.assertEqual(meant(text, (1, 1, 1, 0), "x", (1,), ((1,),)), ())
        self.assertEqual(meant(text, (1, 1, 1, 0), "x", (), ((1,),)), (1, 1))
        self.assertIsNone(meant(text, (1, 1, 1, 0), "x", (1,)), "no such path")
        self.assertIsNone(meant(text, (1, 1, 1, 0), "x", (2,), ((1,),)), "no such path")
        self.assertEqual(meant(text, (1, 1, 1, 0), "x", (1, 2), ((1,), (1,))), ())
        self.assertIsNone(meant(text, (1, 1, 1, 0), "x", (1, 3), ((1,), (1,))))
        self.assertEqual(meant(text, (1, 1, 1, 0), "m", (2,), ((1,), (1,))), (1,), "the maker itself, in its rows")

    def test_last_mark_first(self):
        text = "(hold x@1 1 (maker m (row () x) (hold x 2 (maker k (row () x) 0))))"
        makings = ((1,), (1, 1, 1))
        self.assertEqual(meant(text, (1, 1, 1, 1), "x", (1, 2), makings), ())
        self.assertEqual(meant(text, (1, 1, 1, 1), "x", (2,), makings), (1, 1))
        self.assertEqual(meant(text, (1, 1, 1, 1), "x", (1,), makings), ())
        self.assertIsNone(meant(text, (0,), "x", (1,), makings))

    def test_binders_named_by_fills_bind_nothing(self):
        text = "(maker m (row (name:n) (hold ?n 1 n)) 2)"
        self.assertIsNone(meant(text, (0, 1), "n"))

    def test_works(self):
        tree = read_tree(A)
        for makings in ((), ((1,),), ((1,),) * 40):
            self.assertTrue(is_work((tree, makings)))
        for makings in (((1,),) * 41, ((),), ((1, 1),), ((1, 0),), ((2,),), [(1,)], ([1],), (1,), ((True,),), None):
            self.assertFalse(is_work((tree, makings)), makings)
        self.assertFalse(is_work([tree, ()]))
        self.assertFalse(is_work((tree,)))
        self.assertFalse(is_work((tree, (), ())))
        self.assertFalse(is_work((chain(61), ())))
        self.assertTrue(is_work((chain(60), ())))

    def test_makers_of_works_stand_in_no_row_and_no_use(self):
        tree = read_tree("(maker m (row () (maker k (row () 1) 2)) (make m (maker k (row () 1) 2)))")
        self.assertTrue(is_work((tree, ((),))))
        self.assertFalse(is_work((tree, ((0,),))))
        self.assertFalse(is_work((tree, ((1, 0),))))
        nested = read_tree("(hold x (maker m (row () 1) 2) (maker k (row () 1) (maker j (row () 1) 2)))")
        for path in ((0,), (1,), (1, 1)):
            self.assertTrue(is_work((nested, (path,))))

    def test_bare_trees_by_hand(self):
        """What names mean in fresh works without marks, told a second time, from the outside to the inside."""
        for seed in range(80):
            tree = grown_tree(seed)
            expected = dict(meanings_by_hand(tree, (), {}))
            for path in all_paths(tree):
                for word in "xyzmnk":
                    self.assertEqual(binder_of((tree, ()), path, (word, ())), expected[path].get(word))


def meanings_by_hand(tree, path, known):
    yield path, known
    own = {} if tree[0] not in ("given", "hold", "maker") or tree[1][0] == "fill" else {tree[1][0]: path}
    if tree[0] == "given":
        kids = [(tree[2], own)]
    elif tree[0] == "hold":
        kids = [(tree[2], {}), (tree[3], own)]
    elif tree[0] == "maker":
        kids = [(form, own) for _, form in tree[2]] + [(tree[3], own)]
    elif tree[0] == "make":
        kids = [(piece, {}) for piece in tree[2]]
    else:
        kids = [(part, {}) for part in tree[1:] if isinstance(part, tuple) and tree[0] not in ("use", "fill")]
    for at, (kid, bound) in enumerate(kids):
        yield from meanings_by_hand(kid, path + (at,), {**known, **bound})


class Point49(unittest.TestCase):
    def test_fresh_work(self):
        self.assertEqual(fresh_work(read_tree(A)), (read_tree(A), ()))

    def test_mean_same(self):
        work = (read_tree("(hold x 1 (maker m (row () x) (hold x 2 (+ x y))))"), ((1,),))
        x, free = ("x", ()), ("y", ())
        self.assertTrue(mean_same(work, (1, 0), x, (1, 1, 1), ("x", (1,))))
        self.assertFalse(mean_same(work, (1, 0), x, (1, 1, 1), x))
        self.assertTrue(mean_same(work, (), free, (1, 1, 1), ("y", (1,))), "both free, the same word")
        self.assertTrue(mean_same(work, (), free, (1, 1, 1), ("y", (7,))))
        self.assertFalse(mean_same(work, (), free, (), ("z", ())), "both free, other words")
        self.assertFalse(mean_same(work, (), x, (1, 0), x), "free and bound")
        self.assertFalse(mean_same(work, (1, 0), x, (), x))

    def test_free_words(self):
        for text, words in (("(+ y (make z))", ["y", "z"]), ("(hold x x x)", ["x"]), ("(given x x)", []),
                            ("(make m (make n x))", ["m", "n", "x"]), ("(maker m (row (word:w) (+ u (make v))) 1)", []),
                            ("(maker m (row () 1) (make m (make k)))", ["k"]), ("(+ x@1 x)", ["x"]),
                            ("(given x@1 x)", ["x"]), ("(given x (given y z))", ["z"])):
            self.assertEqual(free_words((read_tree(text), ())), words, text)

    def test_free_words_of_works_that_were_made(self):
        tree = read_tree("(maker m (row () (+ u v)) (given u (make m)))")
        work = made_once((tree, ()), (1, 0))[1]
        self.assertEqual(free_words(work), ["u", "v"])


class BroughtNames(unittest.TestCase):
    """Of point [3]: what a name that a making brings means."""

    def check_making(self, work, path):
        index = row_for(work, path)
        if index is None:
            return 0
        made = made_once(work, path)[1]
        maker = made[1][-1]
        form = part_by(work[0], maker)[2][index][1]
        many = 0
        for inner, part in placed_parts(form, True):
            if part[0] in ("use", "make"):
                new = part_by(made[0], path + inner)[1]
                self.assertEqual(new, (part[1][0], part[1][1] + (len(made[1]),)))
                found = binder_of(made, path + inner, new)
                if found is None or found[:len(path)] != path:
                    self.assertEqual(found, binder_of(work, maker + (index,), part[1]))
                else:
                    # Nothing in a piece has this mark, so the binder is one that the making brings.
                    self.assertEqual(part_by(made[0], found)[1], new)
                    self.assertEqual(part_by(form, found[len(path):])[1], part[1])
                many += 1
        return many

    def test_brought_names(self):
        many = 0
        for tree in [grown_tree(seed) for seed in range(120)] + [read_tree(A), read_tree(E), read_tree(F)]:
            work = fresh_work(tree)
            while outermost_uses(work) and len(work[1]) < 6:
                path = outermost_uses(work)[-1]
                many += self.check_making(work, path)
                result = made_once(work, path)
                if result[0] == "stopped":
                    break
                work = result[1]
        self.assertGreater(many, 50)

    def test_in_an_example(self):
        work = made_by(fresh_work(read_tree(F)), ())[1]
        self.assertEqual(free_words(work), [])


if __name__ == "__main__":
    unittest.main()
