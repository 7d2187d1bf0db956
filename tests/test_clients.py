"""Points [41] to [43] and [76] to [78]: the library, and what clients mean and show."""

import sys
import unittest
from itertools import permutations

from namesapart.directly import shown_directly
from namesapart.errors import InvalidLot, InvalidNumber, InvalidTree, InvalidWord, TooMany
from namesapart.library import brought_by, library_rows, library_words, with_library
from namesapart.makings import made_by, made_once, outermost_uses, row_for
from namesapart.meanings import fresh_work
from namesapart.plain import plain_tree
from namesapart.plainuses import makings_told, meant_plainly
from namesapart.running import shown_by
from namesapart.texts import tree_text
from namesapart.trees import is_tree, part_at, tree_depth, tree_size
from tests.clients import WORDS, grown_client
from tests.growing import ODD_VALUES, chain, read_tree

LIMIT = 10 ** 12
ROWS = {
    "calc": """(row (any:a word:plus any:b) (+ ?a ?b)) (row (any:a word:by any:b) (* ?a ?b))
        (row (any:a word:plus any:b word:by any:c) (make calc ?a plus (make calc ?b by ?c))) (row (any:a) ?a)""",
    "case": "(row (any:e word:is any:k any:b any:c) (test (- ?e ?k) ?c ?b))",
    "joint": "(row (name:n any:e name:o any:h any:b) (apply (apply (given ?n (given ?o ?b)) ?e) ?h))",
    "lets": "(row (name:n any:e any:b) (hold ?n ?e ?b)) (row (name:n any:e name:o any:h any:b) (hold ?n ?e (hold ?o ?h ?b)))",
    "left": "(row (any:p) (apply ?p (given u (given v u))))",
    "right": "(row (any:p) (apply ?p (given u (given v v))))",
    "pair": "(row (any:a any:b) (hold u ?a (hold v ?b (given s (apply (apply s u) v)))))",
    "nay": "(row (any:a) (test ?a 0 1))",
    "orelse": "(row (any:a any:b) (hold t ?a (test t t ?b)))",
    "sum": """(row (name:n any:e any:b) (hold f (given g (given ?n (test ?n (+ ?b (apply (apply g g) (- ?n 1))) 0)))
        (apply (apply f f) ?e)))""",
    "times": """(row (any:e any:h any:x) (hold k ?h (hold f (given g (given i (given y (test i
        (apply (apply (apply g g) (- i 1)) (apply k y)) y)))) (apply (apply (apply f f) ?e) ?x))))""",
}
BROUGHT = {"calc": ["by", "calc", "plus"], "case": ["is"], "joint": [], "lets": [], "left": ["u", "v"], "right": ["u", "v"],
           "pair": ["s", "u", "v"], "nay": [], "orelse": ["t"], "sum": ["f", "g"], "times": ["f", "g", "i", "k", "y"]}


def meant(text, *lot):
    """The text of the plain meaning of a client, by the whole library if no words are told, or what is told instead."""
    told = meant_plainly(lot or WORDS, read_tree(text))
    return tree_text(told[1]) if told[0] == "plain" else told[-1]


def made(text, *lot):
    return makings_told(lot or WORDS, read_tree(text))


def shown(text, most=200):
    told = shown_directly(WORDS, read_tree(text), most)
    return told[1] if told[0] in ("value", "stuck") else told


def by_makings(lot, client):
    """The plain meaning of a client, and its makings, as those of the client with the lot around it tell them."""
    work = fresh_work(with_library(lot, client))
    told = []
    while outermost_uses(work):
        path = outermost_uses(work)[0]
        behind = made_once(work, path)
        if behind[0] == "stopped":
            return ("stopped", behind[2]), told
        told.append((part_at(work[0], path)[1][0], row_for(work, path)))
        work = behind[1]
    plain = plain_tree(work)
    return ("wanting",) if plain[0] == "wanting" else ("plain", plain), told


class Point41(unittest.TestCase):
    def test_words(self):
        self.assertEqual(library_words(), sorted(ROWS))
        library_words().append("more")
        self.assertEqual(library_words(), sorted(ROWS))

    def test_rows(self):
        for word in library_words():
            maker = read_tree(f"(maker m {ROWS[word]} 0)")
            self.assertEqual(library_rows(word), maker[2])
            self.assertTrue(is_tree(("maker", (word, ()), library_rows(word), ("amount", 0))))
            # Told as a text too, so that what is alike but of another kind does not pass.
            self.assertEqual(repr(library_rows(word)), repr(maker[2]))

    def test_nothing_that_is_told_can_be_changed(self):
        """What is told again and again is made of tuples alone, words and integers."""
        todo = [library_rows(word) for word in WORDS] + [with_library(WORDS, ("amount", 1))]
        while todo:
            told = todo.pop()
            self.assertIn(type(told), (tuple, str, int))
            if isinstance(told, tuple):
                todo.extend(told)
        for tell in (lambda: brought_by("calc"), library_words, lambda: makings_told(WORDS, read_tree("(make nay 1)"))):
            ahead = list(tell())
            tell().append("more")
            self.assertEqual(tell(), ahead)

    def test_brought(self):
        for word, words in BROUGHT.items():
            self.assertEqual(brought_by(word), words)

    def test_words_that_are_none(self):
        for word in ODD_VALUES + ("plus", "Sum", "sum ", "f", ("sum",), ["sum"], b"sum"):
            self.assertRaises(InvalidWord, library_rows, word)
            self.assertRaises(InvalidWord, brought_by, word)

    def test_lots_around(self):
        client = read_tree("(make nay x)")
        self.assertEqual(with_library((), client), client)
        around = with_library(("nay", "calc", "sum"), client)
        self.assertEqual(around[1], ("nay", ()))
        self.assertEqual(around[3][1], ("calc", ()))
        self.assertEqual(around[3][3][1], ("sum", ()))
        self.assertEqual(around[3][3][3], client)
        self.assertEqual([around[2], around[3][2]], [library_rows("nay"), library_rows("calc")])
        for lot in (WORDS, WORDS[::-1]):
            tree = with_library(lot, client)
            for word in lot:
                self.assertEqual((tree[0], tree[1], tree[2]), ("maker", (word, ()), library_rows(word)))
                tree = tree[3]
            self.assertEqual(tree, client)

    def test_lots(self):
        for lot in (("nay", "nay"), ["nay"], ("nay", "plus"), "nay", ("nay", 1), ("nay", ("nay",)), (["nay"],), None, ("",)):
            self.assertRaises(InvalidLot, with_library, lot, read_tree("(maker m (row () 1) 2)"))
            self.assertRaises(InvalidLot, meant_plainly, lot, 1)
            self.assertRaises(InvalidLot, makings_told, lot, 1)
            self.assertRaises(InvalidLot, shown_directly, lot, 1, -1)

    def test_clients(self):
        for text in ("(maker m (row () 1) 2)", "(make nay (maker m (row () 1) 2))", "(make nay@1 1)", "(given x@1 1)", "x@2"):
            self.assertRaises(InvalidTree, with_library, (), read_tree(text))
            self.assertRaises(InvalidTree, meant_plainly, (), read_tree(text))
            self.assertRaises(InvalidTree, makings_told, (), read_tree(text))
            self.assertRaises(InvalidTree, shown_directly, (), read_tree(text), -1)
        for value in ODD_VALUES:
            self.assertRaises(InvalidTree, with_library, WORDS, value)

    def test_great_and_deep_around(self):
        self.assertEqual(tree_depth(with_library(("nay",), chain(59))), 60)
        self.assertRaises(InvalidTree, with_library, ("nay",), chain(60))
        self.assertEqual(tree_depth(with_library(WORDS, chain(49))), 60)
        self.assertRaises(InvalidTree, with_library, WORDS, chain(50))
        left = 1000 - tree_size(with_library(WORDS, ("amount", 1))) + 1
        self.assertEqual(tree_size(with_library(WORDS, wide(left))), 1000)
        self.assertRaises(InvalidTree, with_library, WORDS, wide(left + 1))

    def test_bounds_of_each_maker(self):
        for word in WORDS:
            left = 1000 - tree_size(("maker", (word, ()), library_rows(word), ("amount", 1))) + 1
            self.assertEqual(tree_size(with_library((word,), wide(left))), 1000)
            self.assertRaises(InvalidTree, with_library, (word,), wide(left + 1))
            self.assertEqual(tree_depth(with_library((word,), chain(59))), 60)
            self.assertRaises(InvalidTree, with_library, (word,), chain(60))

    def test_what_comes_with_lots_around_is_a_tree(self):
        for seed in range(60):
            lot = WORDS[seed % 12:] + WORDS[:seed % 7 * (seed % 12 > 6)]
            self.assertTrue(is_tree(with_library(lot, grown_client(seed))))
        for lot in permutations(("calc", "sum", "times", "pair")):
            self.assertTrue(is_tree(with_library(lot, chain(56))))
            self.assertRaises(InvalidTree, with_library, lot, chain(57))


def wide(size):
    """A client of this size, not deep."""
    if size <= 3:
        ones = [("amount", 1), ("given", ("x", ()), ("amount", 1)), ("apply", ("amount", 1), ("amount", 1))]
        return ones[size - 1]
    left = size - 1
    return ("test", wide(left // 3), wide((left + 1) // 3), wide((left + 2) // 3))


def count_calls(function, *arguments):
    """How many functions of the package are called, all in all, by a call of one."""
    called = []

    def note(frame, event, _):
        if event == "call" and "namesapart" in frame.f_code.co_filename:
            called.append(frame.f_code.co_name)

    before = sys.getprofile()
    sys.setprofile(note)
    try:
        function(*arguments)
    finally:
        sys.setprofile(before)
    return len(called)


class Shortness(unittest.TestCase):
    """The library is always the same, so nearly nothing is done for it: calls are counted, as times differ."""

    def test_lots_cost_next_to_nothing(self):
        client = read_tree("(make nay 0)")
        for function, more in ((shown_directly, (99,)), (meant_plainly, ()), (makings_told, ()), (with_library, ())):
            few = count_calls(function, ("nay",), client, *more)
            many = count_calls(function, WORDS, client, *more)
            self.assertLess(few, 120, function)
            # One for each word that is looked at, and one for each maker around.
            self.assertLessEqual(many - few, 2 * len(WORDS), function)

    def test_rows_are_told_at_once(self):
        for word in WORDS:
            self.assertLess(count_calls(library_rows, word), 5)


class Point42(unittest.TestCase):
    def test_each_row(self):
        for text, plain, told in (
                ("(make calc 1 plus 2)", "(+ 1 2)", [("calc", 0)]), ("(make calc 1 by 2)", "(* 1 2)", [("calc", 1)]),
                ("(make calc 1 plus 2 by 3)", "(+ 1 (* 2 3))", [("calc", 2), ("calc", 0), ("calc", 1)]),
                ("(make calc 1)", "1", [("calc", 3)]), ("(make case 1 is 2 3 4)", "(test (- 1 2) 4 3)", [("case", 0)]),
                ("(make joint x 1 y 2 (- x y))", "(apply (apply (given a (given b (- a b))) 1) 2)", [("joint", 0)]),
                ("(make lets x 1 (+ x x))", "(hold a 1 (+ a a))", [("lets", 0)]),
                ("(make lets x 1 y (+ x 1) (* x y))", "(hold a 1 (hold b (+ a 1) (* a b)))", [("lets", 1)]),
                ("(make left 1)", "(apply 1 (given a (given b a)))", [("left", 0)]),
                ("(make right 1)", "(apply 1 (given a (given b b)))", [("right", 0)]),
                ("(make pair 1 2)", "(hold a 1 (hold b 2 (given c (apply (apply c a) b))))", [("pair", 0)]),
                ("(make nay 1)", "(test 1 0 1)", [("nay", 0)]), ("(make orelse 1 2)", "(hold a 1 (test a a 2))", [("orelse", 0)]),
                ("(make sum i 3 i)", "(hold a (given b (given c (test c (+ c (apply (apply b b) (- c 1))) 0))) (apply (apply a a) 3))",
                 [("sum", 0)]),
                ("(make times 2 (given x x) 3)", "(hold a (given b b) (hold c (given d (given e (given f (test e (apply (apply "
                 "(apply d d) (- e 1)) (apply a f)) f)))) (apply (apply (apply c c) 2) 3)))", [("times", 0)])):
            self.assertEqual(meant(text), plain)
            self.assertEqual(made(text), told)

    def test_no_row(self):
        for text in ("(make calc)", "(make calc 1 2)", "(make calc 1 2 3)", "(make calc 1 plus 2 3 4)", "(make calc 1 by 2 plus 3)",
                     "(make case 1 plus 2 3 4)", "(make case 1 is 2 3)", "(make joint 1 1 y 2 3)", "(make joint x 1 (+ 1 1) 2 3)",
                     "(make lets 1 2 3)", "(make lets x 1 2 3 4)", "(make left)", "(make nay 1 2)", "(make orelse 1)",
                     "(make sum 1 2 3)", "(make times 1 2)", "(make pair 1)", "(make calc 1 (plus) 2)".replace("(plus)", "3")):
            self.assertEqual(meant(text), "row", text)
            self.assertEqual(made(text), [])

    def test_no_maker(self):
        for text in ("(make zip 1)", "(make plus 1)", "(hold nay 1 (make nay 2))", "(given calc (make calc 1))",
                     "(hold x (make f) 1)", "(make lets nay 1 (make nay 2))", "(make joint x 1 nay 2 (make nay 2))",
                     "(make sum calc 2 (make calc 1))", "(given nay (+ 1 (make nay 1)))"):
            self.assertEqual(meant(text), "maker", text)
        self.assertEqual(meant("(make nay 1)", "calc", "sum"), "maker")
        self.assertEqual(meant("(make nay 1)", "calc", "nay"), "(test 1 0 1)")

    def test_words_of_the_library_bound_elsewhere(self):
        self.assertEqual(meant("(+ (hold nay 1 nay) (make nay 2))"), "(+ (hold a 1 a) (test 2 0 1))")
        self.assertEqual(meant("(hold nay (make nay 1) nay)"), "(hold a (test 1 0 1) a)")
        self.assertEqual(meant("(make lets nay (make nay 1) nay)"), "(hold a (test 1 0 1) a)")
        self.assertEqual(meant("(make lets x 1 nay (make nay x) nay)"), "(hold a 1 (hold b (test a 0 1) b))")
        self.assertEqual(meant("(make lets nay 1 x (make nay 2) x)"), "maker")
        self.assertEqual(meant("(make joint nay (make nay 1) x (make nay 2) nay)"),
                         "(apply (apply (given a (given b a)) (test 1 0 1)) (test 2 0 1))")
        self.assertEqual(meant("(make sum nay (make nay 1) nay)").count("test"), 2)

    def test_words_in_patterns(self):
        for text in ("(hold plus 1 (make calc 2 plus 3))", "(given by (make calc 2 by 3))", "(given is (make case 1 is 2 3 4))",
                     "(make lets plus 1 (make calc 1 plus 2))", "(make sum by 2 (make calc 1 by 2))",
                     "(given by (make calc 1 plus 2 by 3))", "(given plus (make calc 1 plus 2 by 3))"):
            self.assertEqual(meant(text), "row", text)
        # Where the word is bound within a piece, or beside the use, it fits all the same.
        self.assertEqual(meant("(make calc (hold plus 1 plus) plus 2)"), "(+ (hold a 1 a) 2)")
        self.assertEqual(meant("(hold plus (make calc 1 plus 2) plus)"), "(hold a (+ 1 2) a)")

    def test_words_that_forms_bring_always_fit(self):
        self.assertEqual(meant("(make calc (given plus 1) plus (given by 2) by (given calc 3))"),
                         "(+ (given a 1) (* (given b 2) (given c 3)))")

    def test_binders_of_forms_bind_nothing_of_the_client(self):
        self.assertEqual(meant("(hold t 5 (make orelse 0 t))"), "(hold a 5 (hold b 0 (test b b a)))")
        self.assertEqual(meant("(given u (given v (make pair v u)))"),
                         "(given a (given b (hold c b (hold d a (given e (apply (apply e c) d))))))")
        self.assertEqual(meant("(make orelse f (make orelse t s))"), "(hold a f (test a a (hold b t (test b b s))))")
        self.assertEqual(meant("(make sum f 2 (+ f g))"),
                         "(hold a (given b (given c (test c (+ (+ c g) (apply (apply b b) (- c 1))) 0))) (apply (apply a a) 2))")
        # Binders of forms are none of the client's, so a use of a maker within them is meant.
        self.assertEqual(meant("(make orelse 1 (make nay t))"), "(hold a 1 (test a a (test t 0 1)))")

    def test_names_twice(self):
        self.assertEqual(meant("(make joint x 1 x 2 x)"), "(apply (apply (given a (given b b)) 1) 2)")
        self.assertEqual(meant("(make lets x 1 x x x)"), "(hold a 1 (hold b a b))")

    def test_the_first_stop(self):
        for text, reason, told in (
                ("(+ (make nay 1 2) (make zip))", "row", []), ("(+ (make zip) (make nay 1 2))", "maker", []),
                # A use is met ahead of its pieces.
                ("(make nay (make zip))", "maker", [("nay", 0)]), ("(make nay (make zip) 1)", "row", []),
                # Pieces are met as they stand in the form: the last ahead of the one before it.
                ("(make case 1 is 2 (make zip) (make nay))", "row", [("case", 0)]),
                ("(make case (make zip) is 2 3 (make nay))", "maker", [("case", 0)]),
                ("(make times (make zip) (make nay) 3)", "row", [("times", 0)]),
                ("(make sum i (make zip) (make nay))", "row", [("sum", 0)]),
                ("(make sum i (make zip) (make nay i))", "maker", [("sum", 0), ("nay", 0)]),
                ("(make joint x (make zip) y 1 (make nay))", "row", [("joint", 0)]),
                ("(make lets x (make zip) (make nay))", "maker", [("lets", 0)]),
                ("(make calc (make nay 1) plus (make nay 2) by (make zip))", "maker",
                 [("calc", 2), ("calc", 0), ("nay", 0), ("calc", 1), ("nay", 0)])):
            self.assertEqual(meant(text), reason, text)
            self.assertEqual(made(text), told)

    def test_wanting(self):
        for text in ("(+ 1 nay)", "nay", "(make nay nay)", "(make lets x nay x)", "(hold nay nay 1)", "(make sum i sum i)",
                     "(make joint x 1 y sum 2)"):
            self.assertEqual(meant_plainly(WORDS, read_tree(text)), ("wanting",), text)
        for text in ("(hold nay 1 nay)", "(make lets nay 1 nay)", "(make sum nay 1 nay)", "(make lets nay 1 2)", "(given sum sum)"):
            self.assertEqual(meant_plainly(WORDS, read_tree(text))[0], "plain", text)
        self.assertEqual(meant_plainly(("calc",), read_tree("(+ 1 nay)"))[0], "plain")
        # A stop is told ahead of it.
        self.assertEqual(meant("(+ nay (make zip))"), "maker")

    def test_free_words(self):
        self.assertEqual(meant("(+ plus (make nay x))"), "(+ plus (test x 0 1))")
        self.assertEqual(meant("(given x (+ a (make orelse x b)))"), "(given c (+ a (hold d c (test d d b))))")

    def test_forty_makings(self):
        three = "(make calc 1 plus 2 by 3)"
        texts = {39: f"(+ {spread(three, 13)} 1)", 40: f"(+ {spread(three, 13)} (make nay 1))",
                 41: f"(+ {spread(three, 12)} (+ {three} (+ (make nay 1) (make nay 2))))"}
        for many, text in texts.items():
            told = makings_told(("calc", "nay"), read_tree(text))
            self.assertEqual(len(told), min(many, 40))
            self.assertEqual(meant(text) if many > 40 else meant(text)[0], "great" if many > 40 else "(")
        # What is no maker's is told ahead of it.
        self.assertEqual(meant(f"(+ {spread(three, 13)} (+ (make nay 1) (make zip)))"), "maker")
        self.assertEqual(meant(f"(+ {spread(three, 13)} (+ (make nay 1) (make nay)))"), "row")
        self.assertEqual(meant(f"(+ {spread(three, 13)} (+ (make nay 1) (make nay 1)))"), "great")

    def test_limits(self):
        for client, limit in ((wide(101), 100), (("make", ("nay", ()), (chain(6),)), 6), (read_tree(spread("(make nay 1)", 21)), 20),
                              (chain(101 if is_tree(chain(101)) else 60), 6), (great_uses(21, 101), 100), (deep_uses(21), 6)):
            for function in (meant_plainly, makings_told):
                with self.assertRaises(TooMany) as caught:
                    function(WORDS, client)
                self.assertEqual(caught.exception.limit, limit)
            with self.assertRaises(TooMany) as caught:
                shown_directly(WORDS, client, 9)
            self.assertEqual(caught.exception.limit, limit)
            self.assertRaises(InvalidNumber, shown_directly, WORDS, client, 201)
        for client in (wide(100), chain(6), read_tree(spread("(make nay 1)", 20))):
            self.assertEqual(meant_plainly(WORDS, client)[0], "plain")
            self.assertEqual(shown_directly(WORDS, client, 9)[0] in ("value", "stuck", "more"), True)

    def test_by_makings(self):
        """Point [3]: what is made of a client with a lot around it is what its plain meaning tells."""
        told = {}
        for seed in range(500):
            client = grown_client(seed, seed % 2 == 0)
            lot = (WORDS, WORDS[::-1], WORDS[seed % 5:], WORDS[1::2] + WORDS[::2])[seed % 4]
            expected, makings = by_makings(lot, client)
            self.assertEqual(meant_plainly(lot, client), expected)
            self.assertEqual(makings_told(lot, client), makings)
            if seed % 5 == 0:
                result = made_by(fresh_work(with_library(lot, client)), ())
                self.assertEqual(result[0] == "stopped", expected[0] == "stopped")
            told[expected[-1] if expected[0] == "stopped" else expected[0]] = 1
        self.assertEqual(sorted(told), ["maker", "plain", "row", "wanting"])

    def test_lots_in_any_order(self):
        client = read_tree("(make lets x (make calc 1 plus 2 by 3) (make nay x))")
        for lot in permutations(("lets", "calc", "nay", "sum")):
            self.assertEqual(meant_plainly(lot, client), by_makings(lot, client)[0])

    def test_whatever_the_client_binds(self):
        """Point [3]: also the words that the library brings."""
        words = sorted({word for told in BROUGHT.values() for word in told} | set(WORDS))
        for word in words:
            for text in ("(make orelse W (make pair W 1))", "(make sum W 2 (make calc W plus W by 2))", "(make left (make pair W 1))",
                         "(make times 2 (given W (make nay W)) W)", "(make case W is W W W)",
                         "(make joint W 1 x W (make orelse x W))", "(make lets W 3 x W (make sum x W (* x W)))"):
                for around in ("(hold W 4 T)", "(apply (given W T) 2)", "T"):
                    client = read_tree(around.replace("T", text).replace("W", word))
                    expected, makings = by_makings(WORDS, client)
                    self.assertEqual(meant_plainly(WORDS, client), expected)
                    self.assertEqual(makings_told(WORDS, client), makings)


def spread(text, many):
    """The text of a client that has so many of the same one behind another, not deep."""
    rows = [text] * many
    while len(rows) > 1:
        groups = [rows[at:at + 3] for at in range(0, len(rows), 3)]
        rows = [("", "", "(+ {} {})", "(test {} {} {})")[len(group)].format(*group) or group[0] for group in groups]
    return rows[0]


def great_uses(uses, size):
    """A client of more than this size with so many uses of makers."""
    return ("apply", read_tree(spread("(make nay 1)", uses)), wide(size))


def deep_uses(uses):
    """A client of a depth of more than 6 with so many uses of makers."""
    return ("apply", read_tree(spread("(make nay 1)", uses)), chain(7))


class Point43(unittest.TestCase):
    def test_lets_and_joint(self):
        for text, end in (
                ("(make lets x 2 (* x x))", 4), ("(make lets x 2 y (+ x 1) (* x y))", 6), ("(hold x 5 (make lets x (+ x 1) x))", 6),
                ("(hold x 5 (make lets y x x (+ y x) (- x y)))", 5), ("(make lets x 1 x (+ x 1) x)", 2),
                ("(make joint x 7 y 2 (- x y))", 5), ("(make joint x 7 x 2 x)", 2), ("(hold x 1 (make joint x 7 y x (- x y)))", 6),
                ("(hold y 1 (make joint x y y x (- x y)))", ("free", ("x",)))):
            self.assertEqual(shown(text), end, text)

    def test_order_of_lets_and_joint(self):
        great, stuck = f"(+ {LIMIT} 1)", "(apply 1 1)"
        for text, reason in ((f"(make joint x {great} y {stuck} (test x 1 1))", "great"), (f"(make joint x {stuck} y {great} 1)", "apply"),
                             (f"(make joint x 1 y 2 {stuck})", "apply"), (f"(make lets x {great} y {stuck} 1)", "great"),
                             (f"(make lets x 1 y {stuck} {great})", "apply"), (f"(make lets x {stuck} {great})", "apply")):
            self.assertEqual(shown(text), reason)

    def test_nay_orelse_case_and_calc(self):
        for text, end in (
                ("(make nay 0)", 1), ("(make nay 5)", 0), ("(make nay -1)", 0), ("(make nay (given x x))", "test"),
                ("(make nay (make pair 1 2))", "test"), ("(make orelse 0 7)", 7), ("(make orelse 3 (apply 1 1))", 3),
                ("(make orelse -3 7)", -3), ("(make orelse (given x x) 7)", "test"), ("(make orelse 0 (given x x))", "given"),
                ("(make case 3 is 3 10 20)", 10), ("(make case 3 is 4 10 20)", 20), ("(make case 3 is 4 (apply 1 1) 20)", 20),
                ("(make case 4 is 4 10 (apply 1 1))", 10), ("(make case (given x x) is 3 1 2)", "reckon"),
                ("(make case 3 is (given x x) 1 2)", "reckon"), (f"(make case {LIMIT} is -1 1 2)", "great"),
                (f"(make case {LIMIT} is 1 1 2)", 2), ("(make case (apply 1 1) is (+ (given x x) 1) 1 2)", "apply"),
                ("(make calc 2 plus 3)", 5), ("(make calc 2 by 3)", 6), ("(make calc 2 plus 3 by 4)", 14), ("(make calc 2)", 2),
                ("(make calc (given x x))", "given"), ("(make calc 1 plus (given x x))", "reckon"),
                (f"(make calc {LIMIT} plus 1)", "great"), (f"(make calc 1 plus {LIMIT} by 2)", "great"),
                (f"(make calc {-LIMIT} plus {LIMIT} by 1)", 0)):
            self.assertEqual(shown(text), end, text)

    def test_order_of_calc(self):
        great, stuck, reckon = f"(+ {LIMIT} 1)", "(apply 1 1)", "(+ 1 (given x x))"
        for first, second, third, reason in ((great, stuck, reckon, "great"), ("1", stuck, reckon, "apply"), ("1", "1", reckon, "reckon"),
                                             ("(given x x)", "1", great, "great"), ("(given x x)", str(LIMIT), "2", "great"),
                                             ("(given x x)", "1", "2", "reckon")):
            self.assertEqual(shown(f"(make calc {first} plus {second} by {third})"), reason)

    def test_pairs_and_choosers(self):
        pair = "(make pair 7 8)"
        for text, end in (
                (pair, "given"), (f"(make left {pair})", 7), (f"(make right {pair})", 8), (f"(+ {pair} 1)", "reckon"),
                (f"(test {pair} 1 2)", "test"), ("(make pair (apply 1 1) (+ 1 pair))", ("wanting",)),
                ("(make pair (apply 1 1) (+ 1 (given x x)))", "apply"), ("(make pair 1 (+ 1 (given x x)))", "reckon"),
                # Applied to a value that is no chooser: this to the left value, and what comes to the right one.
                (f"(apply {pair} (given x (given y (- x y))))", -1), (f"(apply {pair} (given x x))", "apply"),
                (f"(apply {pair} 3)", "apply"), (f"(apply {pair} (given x {pair}))", "apply"),
                ("(apply (make pair (given x x) 8) (given x x))", 8),
                # A chooser applied to one value alone, to two, and to what is no amount.
                ("(make left (given x x))", "given"), ("(apply (make left (given x x)) 5)", "given"),
                ("(apply (apply (make left (given x x)) 5) 6)", 5), ("(apply (apply (make right (given x x)) 5) 6)", 6),
                ("(+ (make left (given x x)) 1)", "reckon"), ("(test (make right (given x x)) 1 2)", "test"),
                ("(test (apply (make right (given x x)) 5) 1 2)", "test"), ("(* 2 (apply (make left (given x x)) 5))", "reckon"),
                ("(make left (make right (given x x)))", "given"), ("(make left (given x (apply (apply x 1) 2)))", 1),
                (f"(make left (make left (make pair {pair} 1)))", 7), (f"(make right (make left (make pair {pair} 1)))", 8),
                ("(make left 3)", "apply"), ("(make right (apply 1 2))", "apply"),
                ("(make left (make pair (given x (+ x 1)) 2))", "given"),
                ("(apply (make left (make pair (given x (+ x 1)) 2)) 5)", 6),
                # A pair that is applied to a pair.
                ("(apply (make pair (given x (given y (given z z))) 5) (make pair 3 2))", 5),
                ("(apply (make pair (given x (given y x)) 5) (make pair 3 2))", "apply"),
                ("(apply (make pair 1 2) (make pair 3 4))", "apply")):
            self.assertEqual(shown(text), end, text)

    def test_pairs_of_pairs(self):
        """Applying pairs is not counted, and comes to an end soon all the same; told again by functions of Python."""
        choosers = {"left": lambda u: lambda v: u, "right": lambda u: lambda v: v}
        for word, chooser in choosers.items():
            for first, base in (("l", chooser), ("(apply l l)", chooser(chooser))):
                text = f"(hold l (make {word} (given x x)) (hold b (make times N (given x (make pair x x)) {first}) (apply b b)))"
                value = base
                for many in range(1, 9):
                    value = (lambda one: lambda two: two(one)(one))(value)
                    came = value(value)
                    self.assertEqual(shown(text.replace("N", str(many))), "given")
                    told = text.replace("N", str(many)).replace("(apply b b)", "(apply (make pair 3 4) (apply b b))")
                    try:
                        end = came(3)(4)
                    except TypeError:
                        end = "apply"
                    self.assertEqual(shown(told), "given" if callable(end) else end)
                self.assertEqual(shown(text.replace("N", "90")), "given")

    def test_sums(self):
        for text, end in (
                ("(make sum i 4 (* i i))", 30), ("(make sum i 0 (apply 1 1))", 0), ("(make sum i 1 5)", 5),
                ("(hold i 3 (make sum i i i))", 6), ("(make sum i (given x x) 1)", "test"), ("(make sum i (make pair 1 2) 1)", "test"),
                ("(make sum i -1 i)", ("more",)), ("(make sum i -1 (apply i i))", "apply"), ("(make sum i 3 (given x x))", "reckon"),
                ("(make sum i 3 (test (- i 1) 1 (given x x)))", "reckon"), ("(make sum i 3 (test (- i 1) 1 (apply 1 1)))", "apply"),
                ("(make sum i (apply 1 1) 1)", "apply"), ("(make sum i 2 (make sum j i (* i j)))", 7),
                (f"(make sum i {-LIMIT} 1)", "great"), (f"(make sum i {-LIMIT} (apply 1 1))", "apply"),
                (f"(make sum i {-LIMIT} (given x x))", "great")):
            self.assertEqual(shown(text), end, text)

    def test_the_latest_round_is_added_first(self):
        # By rounds 3, 2 and 1: the last two are beyond all amounts, though the sum of all would be none such.
        text = "(make sum i 3 (test (- i 3) {} {}))"
        self.assertEqual(shown(text.format(LIMIT, -LIMIT)), "great")
        self.assertEqual(shown(f"(make sum i 3 (test (- i 1) (test (- i 2) {LIMIT} {-LIMIT}) {LIMIT}))"), LIMIT)
        self.assertEqual(shown(f"(make sum i 3 (test (- i 1) (test (- i 2) {-LIMIT} {LIMIT}) {LIMIT}))"), "great")

    def test_times(self):
        for text, end in (
                ("(make times 3 (given x (* 2 x)) 1)", 8), ("(make times 0 1 5)", 5), ("(make times 0 (apply 1 1) 5)", "apply"),
                ("(make times 2 1 5)", "apply"), ("(make times (given x x) 1 5)", "test"), ("(make times (make pair 1 2) 1 5)", "test"),
                ("(make times 1 (given x (given y x)) 5)", "given"), ("(make times 2 (given x (given y x)) 5)", "given"),
                ("(make times -1 (given x x) 5)", ("more",)), ("(make times 0 1 (given x x))", "given"),
                ("(make times 2 (make pair (given x 3) 4) (given x (given y y)))", "apply"),
                ("(make times 1 (make pair 3 4) (given x (given y (- x y))))", -1),
                ("(apply (make times 1 (make left (given x x)) 5) 6)", 5), (f"(make times {-LIMIT} 1 5)", "great")):
            self.assertEqual(shown(text), end, text)

    def test_the_order_of_times(self):
        great, stuck, reckon = f"(+ {LIMIT} 1)", "(apply 1 1)", "(+ 1 (given x x))"
        for left, function, worth, reason in ((great, stuck, reckon, "apply"), (great, "1", reckon, "great"), ("1", "1", reckon, "reckon"),
                                              ("(given x x)", "1", reckon, "reckon"), ("(given x x)", "1", "1", "test")):
            self.assertEqual(shown(f"(make times {left} {function} {worth})"), reason)

    def test_what_is_counted(self):
        for text, many in (
                ("(make calc 2 plus 3 by 4)", 0), ("(hold x 1 (test x (+ x x) 2))", 0), ("(make joint x 1 y 2 x)", 0),
                ("(make lets x 1 y 2 x)", 0), ("(make orelse 0 1)", 0), ("(make pair 1 2)", 0), ("(make right (make pair 1 2))", 0),
                ("(apply (given x x) 1)", 1), ("(apply (apply (given x (given y x)) 1) 2)", 2), ("(make left (given x 1))", 1),
                ("(apply (apply (make left (given x x)) 5) 6)", 1), ("(apply (make pair 1 2) (given x (given y x)))", 2),
                ("(make sum i 4 (* i i))", 4), ("(make sum i 4 (apply (given x x) i))", 8), ("(make sum i 0 1)", 0),
                ("(make times 3 (given x (* 2 x)) 1)", 6), ("(make times 0 1 1)", 0),
                ("(make times 1 (make pair 3 4) (given x (given y x)))", 3), ("(make times 100 (given x (+ x 1)) 0)", 200),
                ("(make sum i 200 1)", 200), ("(apply 1 (apply (given x x) 2))", 1)):
            self.assertEqual(shown(text, many), shown(text), text)
            self.assertNotEqual(shown(text), ("more",))
            if many > 0:
                self.assertEqual(shown(text, many - 1), ("more",), text)

    def test_rounds_are_counted_when_they_begin(self):
        # The round begins ahead of what makes it stuck.
        for text, reason, many in (("(make sum i 1 (apply 1 1))", "apply", 1), (f"(make times {-LIMIT} 1 1)", "great", 1),
                                   ("(make times 1 1 1)", "apply", 1), ("(make sum i 2 (test (- i 1) 1 (apply 1 1)))", "apply", 2)):
            self.assertEqual(shown(text, many), reason)
            self.assertEqual(shown(text, many - 1), ("more",))
        self.assertEqual(shown("(make sum i (given x x) 1)", 0), "test")
        self.assertEqual(shown("(make times (given x x) 1 1)", 0), "test")
        self.assertEqual(shown("(apply 1 2)", 0), "apply")

    def test_the_most(self):
        self.assertEqual(shown("(make sum i 201 1)"), ("more",))
        self.assertEqual(shown("(apply (given x (apply x x)) (given x (apply x x)))"), ("more",))
        self.assertEqual(shown("(apply (given x x) 1)", 0), ("more",))
        for most in (-1, 201, True, None, "1", 10 ** 30):
            self.assertRaises(InvalidNumber, shown_directly, WORDS, wide(101), most)

    def test_names_keep_their_scopes(self):
        for text, end in (("(hold x 1 (hold y (given z (+ x z)) (hold x 50 (apply y x))))", 51),
                          ("(make lets x 1 y (given z (+ x z)) (make lets x 50 (apply y x)))", 51),
                          ("(make sum x 2 (make lets y x (make sum x 2 (* y x))))", 9),
                          ("(hold t 5 (make orelse 0 t))", 5), ("(hold f 3 (make sum i f f))", 9),
                          ("(hold k 2 (hold y 3 (make times k (given i (+ i y)) y)))", 9)):
            self.assertEqual(shown(text), end)

    def test_stops_come_first(self):
        loop = "(apply (given x (apply x x)) (given x (apply x x)))"
        for text, told in ((f"(+ {loop} (make zip x))", ("stopped", "maker")), (f"(+ {loop} (make nay))", ("stopped", "row")),
                           (f"(+ {loop} (+ nay x))", ("wanting",)), (f"(+ {loop} (+ y x))", ("free", ("x", "y"))),
                           ("(test 1 2 (make zip))", ("stopped", "maker")), ("(test 1 2 x)", ("free", ("x",))),
                           ("(make calc 1 plus x)", ("free", ("x",))), ("(make calc 1 plus plus)", ("free", ("plus",))),
                           ("(make calc x by 2 plus 3)", ("stopped", "row")), ("(+ (make zip nay) nay)", ("stopped", "maker"))):
            self.assertEqual(shown_directly(WORDS, read_tree(text), 0), told, text)
        self.assertEqual(shown_directly((), read_tree("(+ nay 1)"), 0), ("free", ("nay",)))
        self.assertEqual(shown_directly((), read_tree("(make nay 1)"), 0), ("stopped", "maker"))
        self.assertEqual(shown_directly((), read_tree("(+ 1 2)"), 0), ("value", 3))

    def test_by_running(self):
        """Point [3]: what a client with a lot around it shows is what is told of it directly."""
        told = {}
        for seed in range(700):
            client = grown_client(seed, seed % 4 == 0)
            lot = (WORDS, WORDS[::-1])[seed % 2]
            ends = [shown_by(with_library(lot, client), 400), shown_directly(lot, client, 200)]
            if ends[0][0] in ("stopped", "wanting"):
                ends[0] = ("stopped", ends[0][2]) if ends[0][0] == "stopped" else ("wanting",)
            if ("more",) not in ends:
                self.assertEqual(ends[0], ends[1], tree_text(client))
                told[ends[0][:1] + ends[0][1:] * (ends[0][0] in ("stuck", "stopped"))] = 1
        self.assertLessEqual({("value",), ("stuck", "test"), ("stuck", "reckon"), ("stuck", "apply"), ("free",), ("wanting",),
                              ("stopped", "maker"), ("stopped", "row")}, set(told))


if __name__ == "__main__":
    unittest.main()
