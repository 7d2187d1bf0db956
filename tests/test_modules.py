"""Points [30] to [33] and [65] to [68]: modules, what hinders a goal, orders, clashes, and linked trees."""

import unittest
from itertools import permutations

from namesapart.errors import (
    Hindered,
    InvalidModule,
    InvalidNumber,
    InvalidPlaceOrder,
    InvalidShelf,
    InvalidTree,
    TooMany,
)
from namesapart.modulelinks import linked_tree, seen_words
from namesapart.moduleorders import first_order, is_place_order, place_orders, places_needed
from namesapart.modules import hindrance, is_module, is_shelf
from namesapart.moduleshows import clash_in, order_shown, unlike_orders
from namesapart.running import shown_by
from namesapart.trees import is_tree, tree_size
from tests.growing import ODD_VALUES, Picks, broad, chain, nested, read_tree

ONE = ("amount", 1)


def module(name, needs=(), own=(), gives=(), deeds=()):
    return (name, tuple(needs), tuple(own), tuple(gives), tuple(deeds))


def held(word, text):
    return ("hold", word, read_tree(text))


def maker(word, rows):
    return ("maker", word, read_tree(f"(maker m {rows} 0)")[2])


def shelf(*modules):
    return tuple(sorted(modules))


class Point30(unittest.TestCase):
    def test_needs(self):
        good = (("p", 0, ()), ("p", 2, (("a", "b"), ("a", "c"), ("b", "a"), ("c", "d"))), ("p", 1, (("b", "a"),)))
        for need in good:
            self.assertTrue(is_module(module("m", [need])), need)
        self.assertTrue(is_module(module("m", (good * 2)[:4])))
        self.assertFalse(is_module(module("m", (good * 2)[:5])), "five needs")
        for need in (("p", 3, ()), ("p", -1, ()), ("p", True, ()), ("p", None, ()), ("given", 0, ()), ("p", 0), ("p", 0, [], ()),
                     ("p", 0, (("a", "b"), ("b", "b"))), ("p", 0, (("b", "a"), ("a", "b"))), ("p", 0, (("a", "b"), ("a", "b"))),
                     ("p", 0, tuple([("a", word) for word in "abcde"])), ("p", 0, [("a", "b")]), ("p", 0, (("a",),)),
                     ("p", 0, (("a", "row"),)), ("p", 0, ("ab",)), ["p", 0, ()]):
            self.assertFalse(is_module(module("m", [need])), need)

    def test_own_things(self):
        good = (held("a", "1"), held("b", "(+ x y)"), maker("c", "(row (word:w any:e) (make c ?e))"), held("d", "(make z)"))
        self.assertTrue(is_module(module("m", (), good)))
        self.assertFalse(is_module(module("m", (), good + (held("e", "1"),))), "five things")
        for own in ((held("a", "1"), maker("a", "(row () 1)")), (held("given", "1"),), (held("a", "x@1"),), (("hold", "a", None),),
                    (maker("a", "(row () x@1)"),), (maker("a", "(row (word:x@1) 1)"),), (("maker", "a", ()),), (("use", "a", ONE),),
                    (("hold", "a"),), (["hold", "a", ONE],), (("hold", ("a", ()), ONE),), (("maker", "a", ONE),), (("hold", "a", ("fill", "x")),)):
            self.assertFalse(is_module(module("m", (), own)), own)

    def test_sizes_of_own_things(self):
        self.assertTrue(is_module(module("m", (), (("hold", "a", broad(60)),))))
        self.assertFalse(is_module(module("m", (), (("hold", "a", broad(61)),))))
        row = ((("any", "e"), ("amount", 3)), broad(56))
        self.assertEqual(tree_size(("maker", ("a", ()), (row,), ("amount", 0))), 60)
        self.assertTrue(is_module(module("m", (), (("maker", "a", (row,)),))))
        self.assertFalse(is_module(module("m", (), (("maker", "a", ((row[0], broad(57)),)),))))

    def test_gives(self):
        gives = tuple([(word, "x") for word in "abcdef"])
        self.assertTrue(is_module(module("m", (), (), gives)))
        self.assertTrue(is_module(module("m", (), (), (("a", "b"), ("b", "b")))))
        for wrong in (gives + (("g", "x"),), (("a", "b"), ("a", "c")), (("b", "a"), ("a", "a")), (("a", "b", "c"),), [("a", "b")],
                      (("a", "b"), ("a", "b")), (("make", "b"),), None):
            self.assertFalse(is_module(("m", (), (), wrong, ())), wrong)

    def test_deeds(self):
        deeds = (("note", "b"), ("ask", "a"), ("note", "b")) * 2
        self.assertTrue(is_module(module("m", (), (), (), deeds)))
        for wrong in (deeds + deeds[:1], (("tell", "a"),), (("note", "row"),), (("note",),), [("note", "a")], (["note", "a"],), None):
            self.assertFalse(is_module(("m", (), (), (), wrong)), wrong)

    def test_modules_and_shelves(self):
        p = module("p")
        for value in ODD_VALUES + (nested(300), list(p), p[:4], p + ((),), ("given",) + p[1:], (("p", ()),) + p[1:], (p,)):
            self.assertIs(is_module(value), False)
        eight = tuple([module(name) for name in "abcdefgh"])
        self.assertTrue(is_shelf(eight))
        self.assertTrue(is_shelf(eight[:1]))
        for value in ((), eight + (module("i"),), eight[::-1], (p, p), list(eight), (p, None), p, None):
            self.assertIs(is_shelf(value), False)
        for value in ODD_VALUES + (nested(300),):
            self.assertIs(is_shelf(value), False)


class Points31And32(unittest.TestCase):
    def test_nothing_hinders(self):
        p = module("p", (), [held("one", "1")], [("one", "one")])
        q = module("q", [("p", 0, (("one", "two"),)), ("p", 2, (("one", "two"),))], (), [("three", "two")])
        self.assertIsNone(hindrance((p, q), "q"))
        self.assertIsNone(hindrance((p, q), "p"))

    def test_lack(self):
        u = module("u", [("v", 1, ()), ("b", 0, ()), ("a", 2, ())])
        self.assertEqual(hindrance((u,), "u"), ("lack", "u", "a"))
        w = module("w", [("u", 0, ())])
        t = module("t", [("z", 0, ())])
        self.assertEqual(hindrance((t, u, w), "w"), ("lack", "u", "a"), "t is not reached")
        self.assertEqual(hindrance((t, u, w), "t"), ("lack", "t", "z"))

    def test_rings(self):
        self.assertEqual(hindrance((module("u", [("u", 0, ())]),), "u"), ("ring", ("u",)))
        a, b, c = module("a", [("b", 0, ())]), module("b", [("c", 0, ())]), module("c", [("a", 0, ()), ("d", 1, ())])
        d, e = module("d", [("e", 0, ())]), module("e", [("d", 0, ())])
        self.assertEqual(hindrance((a, b, c, d, e), "b"), ("ring", ("d", "e")), "the shortest")
        self.assertEqual(hindrance((a, b, module("c", [("a", 0, ())])), "c"), ("ring", ("a", "b", "c")), "the least of its turns")
        self.assertIsNone(hindrance((a, b, module("c", [("d", 0, ())]), module("d")), "a"))
        f, g = module("f", [("g", 0, ()), ("d", 0, ())]), module("g", [("f", 0, ())])
        self.assertEqual(hindrance((d, e, f, g), "f"), ("ring", ("d", "e")), "the least of the shortest")
        self.assertEqual(hindrance((d, e, f, g), "e"), ("ring", ("d", "e")))

    def test_the_least_of_many_rings(self):
        a = module("a", [("c", 0, ()), ("d", 0, ())])
        c, d = module("c", [("d", 0, ()), ("b", 0, ())]), module("d", [("b", 0, ())])
        b = module("b", [("a", 0, ())])
        self.assertEqual(hindrance((a, b, c, d), "a"), ("ring", ("a", "c", "b")))

    def test_rings_of_offsets_above_zero_are_far(self):
        self.assertEqual(hindrance((module("u", [("u", 1, ())]),), "u"), ("far", "u", 4))
        self.assertEqual(hindrance((module("u", [("u", 2, ())]),), "u"), ("far", "u", 4))
        self.assertEqual(hindrance((module("t", [("u", 1, ())]), module("u", [("u", 2, ())])), "t"), ("far", "u", 5))

    def test_far(self):
        a, b, c, d = [module(name, [(after, offset, ())]) for name, after, offset in
                      (("a", "b", 1), ("b", "c", 2), ("c", "d", 0), ("d", "e", 0))]
        self.assertIsNone(hindrance((a, b, c, d, module("e")), "a"), "a stage 3 is let")
        far = module("d", [("f", 1, ()), ("e", 2, ())])
        self.assertEqual(hindrance((a, b, c, far, module("e"), module("f")), "a"), ("far", "e", 5), "the least place")
        self.assertEqual(hindrance((a, b, c, far, module("e"), module("f")), "b"), ("far", "e", 4))
        self.assertIsNone(hindrance((a, b, c, far, module("e"), module("f")), "c"))

    def test_places_behind_those_too_far_are_not_looked_at(self):
        a, b, c = module("a", [("b", 2, ())]), module("b", [("c", 2, ())]), module("c", [("d", 0, ()), ("b", 0, ())])
        self.assertEqual(hindrance((module("a", [("b", 2, ())]), b, module("c", [("a", 1, ())]), ), "a"), ("far", "c", 4))
        self.assertEqual(hindrance((a, b, c, module("d")), "a"), ("far", "c", 4))

    def test_ungiven(self):
        p = module("p", (), [held("x", "1")], [("one", "x")])
        q = module("q", [("p", 1, (("two", "a"), ("zero", "b"))), ("p", 0, (("one", "c"),))])
        self.assertEqual(hindrance((p, q), "q"), ("ungiven", "q", "p", "two"))
        self.assertIsNone(hindrance((p, q), "p"))

    def test_unseen(self):
        p = module("p", (), [held("x", "1")], [("one", "y"), ("two", "x"), ("zero", "y")])
        self.assertEqual(hindrance((p,), "p"), ("unseen", "p", "one"))
        late = module("q", [("r", 1, (("x", "y"),))], (), [("y", "y")])
        r = module("r", (), [held("x", "1")], [("x", "x")])
        self.assertEqual(hindrance((late, r), "q"), ("unseen", "q", "y"), "at the offset 0 it has no home")
        self.assertIsNone(hindrance((late[:1] + ((("r", 0, (("x", "y"),)),),) + late[2:], r), "q"))

    def test_doubt(self):
        p = module("p", (), [held("x", "1"), held("y", "2")], [("x", "x"), ("y", "y"), ("z", "x")])
        for pairs, offsets, what in (((("x", "a"), ("y", "a")), (0, 0), ("doubt", "q", 0, "a")),
                                     ((("x", "a"), ("z", "a")), (0, 0), None), ((("x", "a"), ("y", "a")), (0, 1), None),
                                     ((("x", "a"), ("y", "a")), (2, 2), ("doubt", "q", 2, "a"))):
            needs = [("p", offset, (pair,)) for pair, offset in zip(pairs, offsets)]
            self.assertEqual(hindrance((p, module("q", needs)), "q"), what)
        needs = [("p", 0, (("x", "a"),)), ("p", 0, (("y", "a"),))]
        self.assertIsNone(hindrance((p, module("q", needs, [held("a", "3")])), "q"), "an own thing is the one home")
        self.assertEqual(hindrance((p, module("q", [(name, 1, pairs) for name, _, pairs in needs], [held("a", "3")])), "q"),
                         ("doubt", "q", 1, "a"), "but at the offset 0 alone")

    def test_doubt_by_words_given_on(self):
        p = module("p", (), [held("x", "1")], [("x", "x")])
        r = module("r", (), [held("x", "1")], [("x", "x")])
        one = module("s", [("p", 0, (("x", "b"),)), ("r", 0, (("x", "b"),))], (), [("b", "b")])
        q = module("q", [("s", 1, (("b", "c"),))])
        self.assertEqual(hindrance((p, q, r, one), "q"), ("doubt", "q", 1, "c"))
        self.assertEqual(hindrance((p, r, one), "s"), ("doubt", "s", 0, "b"))

    def test_which_comes_first(self):
        good = module("p", (), [held("x", "1"), held("y", "2")], [("x", "x"), ("y", "y")])
        doubt = module("q", [("p", 0, (("x", "a"),)), ("p", 0, (("y", "a"),))])
        unseen = module("r", [("q", 0, ())], (), [("z", "z")])
        ungiven = module("s", [("r", 0, (("k", "k"),))])
        far = module("t", [("s", 0, ()), ("t", 2, ())])
        ring = module("u", [("t", 0, ()), ("u", 0, ())])
        lack = module("v", [("u", 0, ()), ("w", 0, ())])
        told = [hindrance((good, doubt, unseen, ungiven, far, ring, lack), goal) for goal in "pqrstuv"]
        self.assertEqual(told, [None, ("doubt", "q", 0, "a"), ("unseen", "r", "z"), ("ungiven", "s", "r", "k"), ("far", "t", 4),
                                ("ring", ("u",)), ("lack", "v", "w")])

    def test_errors(self):
        p = module("p")
        for goal in ("q", None, "", ("p",), 0, ["p"], p):
            self.assertRaises(InvalidModule, hindrance, (p,), goal)
        for value in ((), [p], p, None, (p, p)):
            for function in (hindrance, places_needed, first_order, place_orders, clash_in, unlike_orders):
                self.assertRaises(InvalidShelf, function, value, None)
            self.assertRaises(InvalidShelf, is_place_order, value, None, None)
            self.assertRaises(InvalidShelf, order_shown, value, None, None)
            self.assertRaises(InvalidShelf, seen_words, value, None, None, None)
            self.assertRaises(InvalidShelf, linked_tree, value, None, None)

    def test_hindered(self):
        u = (module("u", [("v", 0, ())]),)
        for function, rest in ((places_needed, ()), (first_order, ()), (is_place_order, (None,)), (place_orders, ()),
                               (order_shown, (None,)), (clash_in, ()), (unlike_orders, ()), (seen_words, (None, None)),
                               (linked_tree, (None,))):
            with self.assertRaises(Hindered) as caught:
                function(u, "u", *rest)
            self.assertEqual(caught.exception.what, ("lack", "u", "v"))
            self.assertRaises(InvalidModule, function, u, "v", *rest)


def grown_shelf(seed):
    """A shelf of modules with needs and deeds, the goal being the last one."""
    picks = Picks(seed)
    names = "abcd"[:2 + picks.below(3)]
    modules = []
    for at, name in enumerate(names):
        ahead = names[:at]
        least = 1 if ahead else 0
        needs = [(picks.one_of(ahead), picks.one_of((0, 0, 1)), ()) for _ in range(least + picks.below(3) if ahead else 0)]
        deeds = [(picks.one_of(("note", "ask")), picks.one_of("xy")) for _ in range(picks.below(3))]
        modules.append(module(name, needs, (), (), deeds))
    return (tuple(modules), names[-1])


def all_orders(modules, goal):
    """All orders of a goal, looked for among all permutations of its places."""
    by_name = {told[0]: told for told in modules}
    found = [(goal, 0)]
    for name, stage in found:
        for need in by_name[name][1]:
            if (need[0], stage + need[1]) not in found:
                found.append((need[0], stage + need[1]))
    orders = []
    for order in permutations(sorted(found)):
        if all(order.index((need[0], stage + need[1])) < at for at, (name, stage) in enumerate(order)
               for need in by_name[name][1]):
            orders.append(order)
    return orders


def shown_by_hand(modules, order):
    by_name = {told[0]: told for told in modules}
    rows, asked = {}, {place: [] for place in order}
    for name, stage in order:
        for deed, cell in by_name[name][4]:
            row = rows.setdefault((cell, stage), [])
            if deed == "note":
                row.append(name)
            else:
                asked[(name, stage)].append(tuple(row))
    return (tuple(sorted((place, tuple(told)) for place, told in asked.items())),
            tuple(sorted((cell, tuple(row)) for cell, row in rows.items() if row)))


class Point33(unittest.TestCase):
    def test_places_and_orders(self):
        looked = 0
        for seed in range(150):
            modules, goal = grown_shelf(seed)
            if hindrance(modules, goal) or len(places_needed(modules, goal)) > 6:
                continue
            orders = all_orders(modules, goal)
            self.assertEqual(places_needed(modules, goal), sorted(orders[0]))
            self.assertEqual(place_orders(modules, goal), orders)
            self.assertEqual(first_order(modules, goal), orders[0])
            for order in orders[:20]:
                self.assertTrue(is_place_order(modules, goal, order))
                self.assertEqual(order_shown(modules, goal, order), shown_by_hand(modules, order))
                for wrong in (order[1:], order[::-1] if len(order) > 1 else (), list(order), order + order[:1]):
                    self.assertFalse(is_place_order(modules, goal, wrong))
                    self.assertRaises(InvalidPlaceOrder, order_shown, modules, goal, wrong)
            looked += len(orders) > 1
        self.assertGreater(looked, 15)

    def test_first_order_is_not_just_ascending(self):
        a, b, c = module("a", [("b", 0, ()), ("c", 0, ())]), module("b"), module("c")
        self.assertEqual(first_order((a, b, c), "a"), (("b", 0), ("c", 0), ("a", 0)))
        a, b, c = module("a"), module("b", [("c", 0, ()), ("a", 1, ())]), module("c", [("a", 0, ())])
        self.assertEqual(first_order((a, b, c), "b"), (("a", 0), ("a", 1), ("c", 0), ("b", 0)))

    def test_orders_show_the_same_just_without_a_clash(self):
        kinds = {True: 0, False: 0}
        for seed in range(400):
            modules, goal = grown_shelf(seed)
            if hindrance(modules, goal) or len(places_needed(modules, goal)) > 6:
                continue
            orders = all_orders(modules, goal)
            shown = {repr(shown_by_hand(modules, order)) for order in orders}
            clash = clash_in(modules, goal)
            self.assertIs(clash is None, len(shown) == 1)
            unlike = unlike_orders(modules, goal)
            self.assertIs(unlike is None, clash is None)
            if unlike is not None:
                self.assertTrue(all(is_place_order(modules, goal, order) for order in unlike))
                self.assertNotEqual(*[order_shown(modules, goal, order) for order in unlike])
                self.check_clash(modules, orders, clash)
            kinds[clash is None] += len(orders) > 1
        self.assertGreater(min(kinds.values()), 5)

    def check_clash(self, modules, orders, clash):
        by_name = {told[0]: told for told in modules}
        one, other = clash
        self.assertLess(one, other)
        self.assertEqual(one[1], other[1])
        self.assertEqual({order.index(one) < order.index(other) for order in orders}, {True, False})
        deeds = [(deed, told) for deed, cell in by_name[one[0]][4] for told, inner in by_name[other[0]][4] if inner == cell]
        self.assertTrue(any("note" in pair for pair in deeds))

    def test_asks_alone_do_not_clash(self):
        p, q = module("p", deeds=[("ask", "x"), ("note", "y")]), module("q", deeds=[("ask", "x"), ("note", "z")])
        r = module("r", [("p", 0, ()), ("q", 0, ())])
        self.assertIsNone(clash_in((p, q, r), "r"))
        late = module("r", [("p", 0, ()), ("q", 1, ())])
        noting = module("q", deeds=[("note", "x")])
        self.assertIsNone(clash_in((p, noting, late), "r"), "other stages have other cells")
        self.assertEqual(clash_in((p, noting, r), "r"), (("p", 0), ("q", 0)))
        needing = module("q", [("p", 0, ())], deeds=[("note", "x")])
        self.assertIsNone(clash_in((p, needing, r), "r"), "one needs the other one")

    def test_needing_at_last(self):
        p, q = module("p", deeds=[("note", "x")]), module("q", [("s", 0, ())], deeds=[("note", "x")])
        s = module("s", [("p", 0, ())])
        self.assertIsNone(clash_in((p, q, module("r", [("p", 0, ()), ("q", 0, ())]), s), "r"))

    def test_own_deeds_in_turn(self):
        p = module("p", deeds=[("ask", "x"), ("note", "x"), ("note", "x"), ("ask", "x"), ("ask", "y")])
        self.assertEqual(order_shown((p,), "p", (("p", 0),)),
                         (((("p", 0), ((), ("p", "p"), ())),), ((("x", 0), ("p", "p")),)))

    def test_at_most_six_places(self):
        names = "abcdef"
        five = [module(name) for name in names[:5]]
        goal = module("z", [(name, 0, ()) for name in names[:4]])
        self.assertEqual(len(place_orders(shelf(*five, goal), "z")), 24)
        six = shelf(*five[:4], module("e"), module("y", [("e", 0, ()), ("a", 0, ()), ("b", 0, ()), ("c", 0, ())]))
        self.assertEqual(len(places_needed(six, "y")), 5)
        chained = shelf(module("a"), module("b", [("a", 0, ())]), module("c", [("b", 0, ())]), module("d", [("c", 0, ())]),
                        module("e", [("d", 0, ())]), module("f", [("e", 0, ())]), module("g", [("f", 0, ())]))
        self.assertEqual(len(place_orders(chained, "f")), 1)
        with self.assertRaises(TooMany) as caught:
            place_orders(chained, "g")
        self.assertEqual(caught.exception.limit, 6)
        self.assertEqual(len(first_order(chained, "g")), 7)

    def test_odd_orders(self):
        p, q = module("p"), module("q", [("p", 1, ())])
        good = (("p", 1), ("q", 0))
        self.assertTrue(is_place_order((p, q), "q", good))
        for value in ODD_VALUES + ((("p", True), ("q", 0)), (("p", 1), ("q", False)), (("p", 1), ("q", None)), (["p", 1], ("q", 0)),
                                   ((1, "p"), ("q", 0)), nested(300), good[::-1]):
            self.assertIs(is_place_order((p, q), "q", value), False, value)
            self.assertRaises(InvalidPlaceOrder, order_shown, (p, q), "q", value)


INC = maker("inc", "(row (any:e) (+ ?e one))")
BIND = maker("bind", "(row (name:n any:e any:b) (hold ?n ?e ?b))")
P = module("p", (), [held("one", "1"), INC], [("inc", "inc"), ("one", "one"), ("uno", "one")])


class Point68(unittest.TestCase):
    def shown(self, modules, goal, text, most=100):
        body = read_tree(text)
        tree = linked_tree(modules, goal, body)
        self.assertTrue(is_tree(tree))
        result = shown_by(tree, most)
        return result[:1] + result[2:] if result[0] == "stopped" else result

    def test_seen_words(self):
        q = module("q", [("p", 0, (("inc", "up"), ("one", "a"))), ("p", 1, (("one", "b"), ("uno", "c"))), ("p", 2, (("inc", "d"),))],
                   [held("a", "7"), held("z", "8")], [("up", "up")])
        r = module("r", [("q", 2, (("up", "upper"),)), ("p", 2, (("inc", "upper"),))])
        self.assertEqual(seen_words((P, q), "q", "q", 0), [("a", "q", "a"), ("up", "p", "inc"), ("z", "q", "z")])
        self.assertEqual(seen_words((P, q), "q", "q", 1), [("b", "p", "one"), ("c", "p", "one")])
        self.assertEqual(seen_words((P, q), "q", "q", 2), [("d", "p", "inc")])
        self.assertEqual(seen_words((P, q), "q", "p", 1), [])
        r = module("r", [("q", 1, (("up", "upper"),)), ("p", 1, (("inc", "upper"),))])
        self.assertEqual(seen_words((P, q, r), "r", "r", 1), [("upper", "p", "inc")], "one home by two ways")

    def test_errors(self):
        q = module("q", [("p", 1, ())])
        for name in ("q", "z", None, "", ["p"], 0):
            self.assertRaises(InvalidModule, seen_words, (P, q), "p", name, None)
        for offset in (3, -1, True, None, "0"):
            self.assertRaises(InvalidNumber, seen_words, (P, q), "q", "p", offset)
        for body in (None, read_tree("x@1"), ("fill", "x"), ("use", "x"), read_tree("(maker m (row (word:x@1) 1) 2)")):
            self.assertRaises(InvalidTree, linked_tree, (P, q), "q", body)

    def test_things_of_the_goal(self):
        self.assertEqual(self.shown((P,), "p", "(make inc one)"), ("value", 2))
        self.assertEqual(self.shown((P,), "p", "(+ x one)"), ("free", ("x",)))
        self.assertEqual(self.shown((module("p"),), "p", "(+ 1 1)"), ("value", 2))
        self.assertEqual(self.shown((P,), "p", "(make one)"), ("stopped", "maker"))
        self.assertEqual(self.shown((P,), "p", "(make inc)"), ("stopped", "row"))
        self.assertEqual(self.shown((P,), "p", "(+ inc 1)")[0], "wanting")
        self.assertEqual(self.shown((P,), "p", "(hold one 5 (make inc one))"), ("value", 6), "its one means that of its home")

    def test_words_of_other_modules_are_kept_apart(self):
        q = module("q", [("p", 0, (("inc", "up"),))], [held("one", "50"), held("inc", "60")])
        self.assertEqual(self.shown((P, q), "q", "(make up one)"), ("value", 51))
        self.assertEqual(self.shown((P, q), "q", "(+ one inc)"), ("value", 110))
        self.assertEqual(self.shown((P, module("q", [("p", 0, (("inc", "up"),))])), "q", "(+ one 1)"), ("free", ("one",)))
        self.assertEqual(self.shown((P, module("q", [("p", 0, ())])), "q", "(make inc 1)"), ("stopped", "maker"))

    def test_own_things_ahead_and_behind(self):
        q = module("q", (), [held("a", "b"), held("b", "2"), held("c", "(+ b b)")])
        self.assertEqual(self.shown((q,), "q", "c"), ("free", ("b",)), "b is no thing ahead of a")
        self.assertEqual(self.shown((module("q", (), q[2][1:]),), "q", "c"), ("value", 4))
        own = module("q", (), [held("a", "(+ a 1)")])
        self.assertEqual(self.shown((own,), "q", "a"), ("free", ("a",)))
        later = module("q", (), [maker("m", "(row () (make k))"), maker("k", "(row () 3)")])
        self.assertEqual(self.shown((later,), "q", "(make m)"), ("stopped", "maker"))
        self.assertEqual(self.shown((module("q", (), later[2][::-1]),), "q", "(make m)"), ("value", 3))

    def test_own_words_hide_those_that_are_needed(self):
        q = module("q", [("p", 0, (("one", "a"), ("uno", "b")))], [held("c", "a"), held("a", "(+ b 40)"), held("d", "(+ a c)")])
        self.assertEqual(hindrance((P, q), "q"), None)
        self.assertEqual(self.shown((P, q), "q", "(+ d 0)"), ("free", ("a",)), "an own word behind stays as it is")
        q = module("q", [("p", 0, (("one", "a"), ("uno", "b")))], [held("a", "(+ b 40)"), held("d", "(+ a b)")])
        self.assertEqual(self.shown((P, q), "q", "(+ d a)"), ("value", 83))

    def test_a_makers_own_word_in_its_rows(self):
        rows = "(row (0) 0) (row (1) (make down 0)) (row (any:e word:down) ?e)"
        q = module("q", (), [maker("down", rows)])
        self.assertEqual(self.shown((q,), "q", "(make down 1)"), ("value", 0))
        self.assertEqual(self.shown((q,), "q", "(make down 7 down)"), ("value", 7))
        self.assertEqual(self.shown((q,), "q", "(hold down 7 (+ down 1))"), ("value", 8))
        given_on = module("r", [("q", 0, (("down", "up"),))])
        q = q[:3] + ((("down", "down"),),) + q[4:]
        self.assertEqual(self.shown((q, given_on), "r", "(make up 7 up)"), ("value", 7))
        self.assertEqual(self.shown((q, given_on), "r", "(make up 7 down)"), ("stopped", "row"))

    def test_words_of_one_home_are_one_name(self):
        b = module("b", (), [BIND], [("bind", "bind")])
        q = module("q", [("b", 0, (("bind", "bind"),)), ("p", 0, (("one", "x"), ("uno", "y")))])
        for text, value in (("(make bind x 5 (+ x y))", 10), ("(make bind y 5 (+ x y))", 10), ("(hold x 5 (+ x y))", 6),
                            ("(make bind z 5 (+ x y))", 2), ("(+ (make bind y 5 x) y)", 6)):
            self.assertEqual(self.shown((b, P, q), "q", text), ("value", value), text)

    def test_names_in_patterns(self):
        p = module("p", (), [held("plus", "0"), maker("calc", "(row (any:a word:plus any:b) (+ ?a ?b)) (row (any:a any:o any:b) 0)")],
                   [("calc", "calc"), ("plus", "plus")])
        q = module("q", [("p", 0, (("calc", "do"), ("plus", "and")))], [held("plus", "9")])
        self.assertEqual(self.shown((p, q), "q", "(make do 3 and 4)"), ("value", 7))
        self.assertEqual(self.shown((p, q), "q", "(make do 3 plus 4)"), ("value", 0))
        self.assertEqual(self.shown((p, q), "q", "(hold and 1 (make do 3 and 4))"), ("value", 0))

    def test_names_in_inner_makers(self):
        inner = "(row (any:e) (maker k (row (any:f word:one) (+ ?f one)) (make k ?e one)))"
        p = module("p", (), [held("one", "1"), maker("m", inner)])
        self.assertEqual(self.shown((p,), "p", "(make m 4)"), ("value", 5))
        self.assertEqual(self.shown((p,), "p", "(hold one 3 (make m one))"), ("value", 4))
        self.assertEqual(self.shown((p,), "p", "(maker k (row (word:one) one) (make k one))"), ("value", 1))

    def test_only_the_stage_0(self):
        q = module("q", [("p", 1, (("one", "b"),)), ("p", 2, (("one", "a"),))], [held("c", "5")])
        self.assertEqual(self.shown((P, q), "q", "(+ a b)"), ("free", ("a", "b")))
        self.assertEqual(tree_size(linked_tree((P, q), "q", ONE)), 3)
        through = module("r", [("q", 0, ())])
        self.assertEqual(tree_size(linked_tree((P, q, through), "r", ONE)), 3)

    def test_all_things_module_by_module(self):
        a = module("a", [("z", 0, (("x", "x"),))], [held("w", "(+ x 1)")], [("w", "w")])
        b = module("b", [("a", 0, (("w", "w"),))], [held("x", "(* w w)")])
        z = module("z", (), [held("x", "6")], [("x", "x")])
        self.assertEqual(first_order((a, b, z), "b"), (("z", 0), ("a", 0), ("b", 0)))
        self.assertEqual(self.shown((a, b, z), "b", "(+ x w)"), ("value", 56))
        tree = linked_tree((a, b, z), "b", ONE)
        self.assertEqual([tree[2], tree[3][2][2], tree[3][3][2][1], tree[3][3][3]],
                         [("amount", 6), ("use", tree[1]), "*", ONE])

    def test_words_stay_in_all_other_places(self):
        q = module("q", [("p", 0, (("one", "a"),))], [held("f", "(given a (+ a free))"), held("g", "(hold a a (+ a b))")])
        self.assertEqual(self.shown((P, q), "q", "f"), ("free", ("b", "free")))
        self.assertEqual(self.shown((P, q), "q", "(apply (given a a) 4)"), ("free", ("b", "free")), "all things are held")
        q = module("q", [("p", 0, (("one", "a"),))], [held("f", "(given a (+ a 1))"), held("g", "(hold a a (+ a a))")])
        self.assertEqual(self.shown((P, q), "q", "(apply f (+ g a))"), ("value", 4))

    def test_great_linked_trees(self):
        things = [("hold", word, broad(60)) for word in "abcd"]
        modules = [module(name, (), things) for name in "abcd"]
        goal = module("z", [(name, 0, ()) for name in "abcd"])
        self.assertTrue(is_tree(linked_tree(shelf(*modules, goal), "z", broad(1000 - 16 * 61))))
        self.assertRaises(InvalidTree, linked_tree, shelf(*modules, goal), "z", broad(1001 - 16 * 61))
        self.assertTrue(is_tree(linked_tree(shelf(*modules, goal), "z", chain(24))))
        deep = module("a", (), [("hold", word, ONE) for word in "abcd"])
        self.assertTrue(is_tree(linked_tree((deep,), "a", chain(56))))
        self.assertRaises(InvalidTree, linked_tree, (deep,), "a", chain(57))

    def test_whatever_words_other_modules_have(self):
        """Own words are changed throughout a shelf, with all that speaks of them; what is shown stays."""
        bodies = ("(make up (+ k one))", "(hold one 3 (make up one))", "(make m k (+ one k))", "(make m one (+ one k))", "(+ k (make up k))")
        for text in bodies:
            shown = set()
            for own, inner, other in (("one", "k", "k"), ("k", "one", "e"), ("m", "up", "one"), ("up", "n", "m"), ("x", "y", "z")):
                if len({own, inner}) < 2:
                    continue
                p = module("p", (), [held(own, "1"), maker(inner, f"(row (any:e) (hold t ?e (+ t {own})))"),
                                     maker("bind", f"(row (name:n any:b) (hold ?n {own} ?b))")],
                           [("bind", "bind"), ("inc", inner), ("uno", own)])
                r = module("r", [("p", 0, (("uno", other),))], [], [("uno", other)])
                q = module("q", [("p", 0, (("bind", "m"), ("inc", "up"))), ("r", 0, (("uno", "k"),))], [held("one", "20")])
                self.assertIsNone(hindrance((p, q, r), "q"))
                shown.add(self.shown((p, q, r), "q", text))
            self.assertEqual(len(shown), 1, text)
            self.assertEqual(list(shown)[0][0], "value")


if __name__ == "__main__":
    unittest.main()
