"""Points [17] to [21] and [56] to [58]: wide patterns and rows, filling, unrolling, rows never come to."""

import unittest
from itertools import product

from namesapart.errors import InvalidNumber, InvalidPattern, InvalidPieces, InvalidRow, InvalidRows, InvalidTree
from namesapart.errors import NotTaken, TooMany
from namesapart.lostrows import is_lost_paper, is_wider, lost_paper, lost_rows, pieces_for, row_taking
from namesapart.makings import made_once
from namesapart.shapes import bared_tree, part_by
from namesapart.texts import tree_text
from namesapart.trees import is_tree
from namesapart.widemakings import filled_by, narrowed, unrolled
from namesapart.widerows import is_wide_pattern, is_wide_row, piece_numbers, refused_at, taken_by
from tests.growing import Picks, broad, chain, read_tree

ONE = ("amount", 1)
PAIRS = (("each", (("name", "n"), ("any", "e"))), ("any", "b"))
LETS = (PAIRS, ("fold", ("hold", ("fill", "n"), ("fill", "e"), ("rest",)), ("fill", "b")))
SUM = ((("any", "a"), ("each", (("any", "r"),))),
       ("reckon", "+", ("fill", "a"), ("make", ("sum", ()), (("each", ("fill", "r")),))))
ANY, NAME, FIVE = ("any", "x"), ("name", "x"), ("amount", 5)


def each(*run):
    return ("each", run)


def use(word, marks=()):
    return ("use", (word, marks))


def pieces_of(text):
    return read_tree(f"(make m {text})")[2]


def numbered(kind, many, word="h"):
    return tuple([(kind, word + letter) for letter in "abcdef"[:many]])


class Point17(unittest.TestCase):
    def test_patterns(self):
        for pattern in ((), numbered("any", 6), (each(ANY),), (each(ANY, ("name", "y"), ("any", "z")),), PAIRS,
                        numbered("any", 5) + (each(ANY),), (each(FIVE),), (each(("word", ("w", (1, 40)))),),
                        (FIVE, ("word", ("x", ())), each(ANY), ("name", "y")), (FIVE,) * 6, (each(FIVE, FIVE, FIVE),)):
            self.assertTrue(is_wide_pattern(pattern), pattern)
        for pattern in (numbered("any", 6) + (FIVE,), (FIVE,) * 7, (each(),), (each(FIVE, FIVE, FIVE, FIVE),),
                        (each(ANY), each(FIVE)), (ANY, each(ANY)), (each(ANY, NAME),), (ANY, NAME), (each(each(ANY)),),
                        (("each", [ANY]),), (("each", ANY),), (("each",),), [ANY], ANY, None, (("any", "given"),),
                        (("any", "abcdefg"),), (("word", "w"),), (("amount", 10 ** 12 + 1),), (each(("any", "any")),),
                        numbered("any", 6) + (each(ANY),), (("rest",),), (("fill", "x"),), (each(ANY) + (1,),)):
            self.assertFalse(is_wide_pattern(pattern), pattern)

    def test_numbers(self):
        for pattern, numbers in (((), [0]), (numbered("any", 6), [6]), (PAIRS, [1, 3, 5]), ((each(ANY),), [0, 1, 2, 3, 4, 5, 6]),
                                 ((each(FIVE, FIVE),), [0, 2, 4, 6]), ((each(FIVE, FIVE, FIVE),), [0, 3, 6]),
                                 (numbered("any", 5) + (each(ANY),), [5, 6]), (numbered("any", 5) + (each(FIVE, FIVE),), [5]),
                                 ((FIVE, each(FIVE, FIVE, FIVE), FIVE), [2, 5]), ((FIVE,), [1])):
            self.assertEqual(piece_numbers(pattern), numbers, pattern)

    def test_fits(self):
        for piece, taken, refused in (
                (ANY, ("1", "x", "(make k)", "(given x x)"), ()), (NAME, ("x", "y@3"), ("1", "(make x)", "(+ x x)")),
                (("word", ("w", ())), ("w",), ("v", "w@1", "1", "(make w)")),
                (("word", ("w", (2, 3))), ("w@2@3",), ("w", "w@2", "w@3")), (FIVE, ("5",), ("-5", "6", "x"))):
            for text in taken:
                self.assertIsNone(refused_at((piece,), pieces_of(text)))
            for text in refused:
                self.assertEqual(refused_at((piece,), pieces_of(text)), 0)

    def test_a_run_in_the_middle(self):
        pattern = (FIVE, each(("name", "n"), ("amount", 1)), ("any", "z"))
        for text, at in (("5 7", None), ("5 x 1 7", None), ("5 x 1 y 1 z", None), ("5", -1), ("5 x 1", -1), ("", -1),
                         ("6 x 1 y 1 z", 0), ("5 6 1 y 1 z", 1), ("5 x 2 y 1 z", 2), ("5 x 1 1 1 z", 3), ("5 x 1 y 2 z", 4),
                         ("6 6 6 6 6 6", 0), ("6 1 1 7", 0), ("5 x 1 y 1", -1)):
            self.assertEqual(refused_at(pattern, pieces_of(text)), at, text)
            self.assertEqual(taken_by(pattern, pieces_of(text)) is None, at is not None)

    def test_held(self):
        self.assertEqual(taken_by((), ()), ())
        pattern = (("any", "z"), each(("name", "n"), FIVE, ("any", "a")), ("name", "c"))
        self.assertEqual(taken_by(pattern, pieces_of("1 u")), (("a", ()), ("c", use("u")), ("n", ()), ("z", ONE)))
        self.assertEqual(taken_by(pattern, pieces_of("1 v 5 7 u")),
                         (("a", (("amount", 7),)), ("c", use("u")), ("n", (use("v"),)), ("z", ONE)))
        self.assertEqual(taken_by((each(("any", "a"), ("any", "b")),), pieces_of("1 2 3 4")),
                         (("a", (ONE, ("amount", 3))), ("b", (("amount", 2), ("amount", 4)))))
        self.assertIsNone(taken_by(pattern, pieces_of("1 5 5 7 u")))
        self.assertIsNone(taken_by(pattern, pieces_of("1")))

    def test_errors(self):
        for function in (taken_by, refused_at):
            self.assertRaises(InvalidPattern, function, (ANY, ANY), None)
            for value in (None, [ONE], (ONE,) * 7, (("fill", "x"),), ((),), ONE, (chain(61),), (broad(1001),)):
                self.assertRaises(InvalidPieces, function, (ANY,), value)
        self.assertIsNone(refused_at((ANY,) + numbered("any", 5), (broad(1000),) * 6))
        self.assertRaises(InvalidPattern, piece_numbers, (each(),))

    def test_one_way_at_most(self):
        """Of point [3]: told by trying all numbers of turns, and all that stands at the places."""
        trees = [ONE, FIVE, use("x"), use("w"), ("apply", ONE, ONE)]
        for pattern in ((each(NAME), FIVE), (each(NAME, FIVE), ("any", "z")), (("any", "y"), each(ANY)), (FIVE, each(FIVE))):
            for many in range(4):
                for pieces in product(trees, repeat=many):
                    ways = [turns for turns in range(7) for row in [spread_by_hand(pattern, turns)]
                            if len(row) == many and all([fits_by_hand(*pair) for pair in zip(row, pieces)])]
                    self.assertLessEqual(len(ways), 1)
                    self.assertEqual(taken_by(pattern, pieces) is not None, len(ways) == 1)


def spread_by_hand(pattern, turns):
    row = []
    for piece in pattern:
        row.extend(list(piece[1]) * turns if piece[0] == "each" else [piece])
    return row


def fits_by_hand(piece, tree):
    if piece[0] == "amount":
        return tree == piece
    return piece[0] == "any" or tree[0] == "use" and (piece[0] == "name" or tree[1] == piece[1])


def wide(form, pattern=PAIRS):
    return is_wide_row((pattern, form))


class Point18(unittest.TestCase):
    def test_fills(self):
        self.assertTrue(wide(("fill", "b")))
        for hole in ("n", "e", "z"):
            self.assertFalse(wide(("fill", hole)), "many holes are filled in runs and steps alone")
        named = (("name", "o"), each(("name", "n"), ("any", "e")))
        self.assertTrue(wide(("given", ("fill", "o"), ("fill", "o")), named))
        self.assertFalse(wide(("given", ("fill", "n"), ONE), named))
        self.assertFalse(wide(("given", ("fill", "b"), ONE)))
        for name in ("n", "o"):
            self.assertTrue(wide(("fold", ("given", ("fill", name), ("rest",)), ONE), named))
        self.assertFalse(wide(("fold", ("given", ("fill", "e"), ("rest",)), ONE), named))
        self.assertFalse(wide(("fold", ONE, ("given", ("fill", "n"), ONE)), named))

    def test_each(self):
        def told(*pieces):
            return ("make", ("m", ()), pieces)
        run = ("each", ("fill", "e"))
        for form in (told(run), told(run, ("fill", "b"), run), told(*[run] * 6), told(("each", ("given", ("fill", "n"), ONE))),
                     ("hold", ("x", ()), told(run), told(told(run))), told(("each", told(("fill", "b"), ("fill", "e")))),
                     ("fold", ONE, told(run)), told(("fold", ("rest",), ("fill", "b")), run)):
            self.assertTrue(wide(form), form)
        for form in (run, ("given", ("x", ()), run), ("apply", run, ONE), told(*[run] * 7), told(("each", run)),
                     told(("each", told(run))), told(("each",)), told(("each", ONE, ONE)), told(("each", ("rest",))),
                     told(("each", ("fold", ONE, ONE))), ("fold", told(run), ONE), ("fold", run, ONE), ("fold", ONE, run),
                     told([run]), told(("each", ("given", ("fill", "e"), ONE)))):
            self.assertFalse(wide(form), form)

    def test_fold(self):
        rest = ("rest",)
        for form in (("fold", ONE, ONE), ("fold", rest, ONE), ("fold", ("apply", ("fill", "e"), rest), ("fill", "b")),
                     ("given", ("x", ()), ("fold", rest, ("fold", ("given", ("x", ()), rest), ("fill", "b")))),
                     ("fold", ("make", ("m", ()), (rest, ("fill", "n"))), ONE), ("apply", ("fold", rest, ONE), ("fold", rest, ONE))):
            self.assertTrue(wide(form), form)
        for form in (rest, ("apply", rest, ONE), ("fold", ONE, rest), ("fold", ("apply", rest, rest), ONE),
                     ("fold", ("fold", rest, ONE), ONE), ("fold", ("apply", ("fold", ONE, ONE), rest), ONE), ("fold", ONE),
                     ("fold", ONE, ONE, ONE), ("fold", ("rest", ONE), ONE), ("fold", ("given", rest, ONE), ONE),
                     ("fold", ("given", ("fill", "e"), ONE), ONE), ["fold", ONE, ONE],
                     ("fold", ("make", ("m", ()), (rest, ("given", ("x", ()), rest))), ONE)):
            self.assertFalse(wide(form), form)

    def test_no_makers(self):
        maker = ("maker", ("m", ()), (((), ONE),), ONE)
        for form in (maker, ("apply", ONE, maker), ("make", ("m", ()), (("each", maker),)), ("fold", maker, ONE),
                     ("fold", ONE, maker)):
            self.assertFalse(wide(form), form)

    def test_without_each_in_the_pattern(self):
        pattern = (("any", "b"),)
        self.assertTrue(wide(("make", ("m", ()), (("fill", "b"),)), pattern))
        for form in (("make", ("m", ()), (("each", ("fill", "b")),)), ("fold", ("rest",), ONE), ("fold", ONE, ONE)):
            self.assertTrue(wide(form))
            self.assertFalse(wide(form, pattern))
            self.assertTrue(wide(form, pattern + (each(FIVE),)))

    def test_bounds(self):
        self.assertTrue(wide(broad(200)))
        self.assertFalse(wide(broad(201)))
        self.assertTrue(wide(("fold", ("rest",), broad(198))))
        self.assertFalse(wide(("fold", ("rest",), broad(199))))
        self.assertTrue(wide(("make", ("m", ()), (("each", ("fill", "e")), broad(197)))))
        self.assertFalse(wide(("make", ("m", ()), (("each", ("fill", "e")), broad(198)))))
        self.assertTrue(wide(chain(30)))
        self.assertFalse(wide(chain(31)))
        self.assertTrue(wide(("fold", chain(29), chain(29))))
        self.assertFalse(wide(("fold", chain(30), ONE)))
        self.assertFalse(wide(("fold", ONE, chain(30))))
        self.assertTrue(wide(("make", ("m", ()), (("each", chain(28)),))))
        self.assertFalse(wide(("make", ("m", ()), (("each", chain(29)),))))

    def test_rows(self):
        self.assertTrue(is_wide_row(LETS))
        self.assertTrue(is_wide_row(SUM))
        self.assertTrue(is_wide_row(((), use("x", (1, 40)))))
        for value in (None, (), (PAIRS,), (PAIRS, ONE, ONE), [PAIRS, ONE], (PAIRS + PAIRS, ONE), (PAIRS, None), (PAIRS, ()),
                      (PAIRS, use("x", (41,))), (PAIRS, ("amount", True)), (PAIRS, ("use", "x"))):
            self.assertFalse(is_wide_row(value), value)


class Point19(unittest.TestCase):
    def filled(self, row, text):
        return tree_text(filled_by(row, pieces_of(text)))

    def test_fold(self):
        self.assertEqual(self.filled(LETS, "9"), "9")
        self.assertEqual(self.filled(LETS, "x 1 9"), "(hold x 1 9)")
        self.assertEqual(self.filled(LETS, "x@3 1 y 2 (+ x y)"), "(hold x@3 1 (hold y 2 (+ x y)))")
        row = ((each(("any", "e")),), ("fold", ("reckon", "-", ("fill", "e"), ("rest",)), ("amount", 0)))
        self.assertEqual(self.filled(row, "1 2 3 4 5 6"), "(- 1 (- 2 (- 3 (- 4 (- 5 (- 6 0))))))")
        self.assertEqual(self.filled(row, ""), "0")

    def test_fold_without_rest(self):
        row = ((each(("any", "e")),), ("fold", ("fill", "e"), ("amount", 0)))
        self.assertEqual(self.filled(row, "1 2 3"), "1")
        self.assertEqual(self.filled(row, ""), "0")

    def test_single_holes_in_a_step(self):
        row = ((("any", "a"), each(("any", "e"))),
               ("fold", ("apply", ("fill", "a"), ("apply", ("rest",), ("fill", "e"))), ("fill", "a")))
        self.assertEqual(self.filled(row, "x 1 2"), "(apply x (apply (apply x (apply x 2)) 1))")

    def test_each(self):
        self.assertEqual(self.filled(SUM, "1"), "(+ 1 (make sum))")
        self.assertEqual(self.filled(SUM, "1 2 3"), "(+ 1 (make sum 2 3))")
        row = ((("any", "a"), each(("name", "n"), ("any", "e"))),
               ("make", ("k", (3,)), (ONE, ("each", ("given", ("fill", "n"), ("apply", ("fill", "e"), ("fill", "a")))),
                                      ("fill", "a"), ("each", ("fill", "n")))))
        self.assertEqual(self.filled(row, "7 x 1 y 2"),
                         "(make k@3 1 (given x (apply 1 7)) (given y (apply 2 7)) 7 x y)")
        self.assertEqual(self.filled(row, "7"), "(make k@3 1 7)")

    def test_each_in_the_end_of_a_fold(self):
        row = (PAIRS, ("fold", ("hold", ("fill", "n"), ("fill", "e"), ("rest",)),
                       ("make", ("k", ()), (("each", ("fill", "n")), ("fill", "b")))))
        self.assertEqual(self.filled(row, "x 1 y 2 z"), "(hold x 1 (hold y 2 (make k x y z)))")

    def test_fold_in_the_end_of_a_fold(self):
        inner = ("fold", ("reckon", "+", ("fill", "n"), ("rest",)), ("fill", "b"))
        row = (PAIRS, ("fold", ("hold", ("fill", "n"), ("fill", "e"), ("rest",)), inner))
        self.assertEqual(self.filled(row, "x 1 y 2 z"), "(hold x 1 (hold y 2 (+ x (+ y z))))")
        self.assertEqual(self.filled(row, "z"), "z")

    def test_names(self):
        row = ((("name", "n"),), ("hold", ("fill", "n"), ("fill", "n"), ("given", ("x", (2,)), use("x", (2,)))))
        self.assertEqual(self.filled(row, "y@1"), "(hold y@1 y@1 (given x@2 x@2))")

    def test_errors(self):
        self.assertRaises(NotTaken, filled_by, LETS, ())
        self.assertRaises(NotTaken, filled_by, LETS, pieces_of("1 2 3"))
        self.assertRaises(NotTaken, filled_by, SUM, ())
        self.assertRaises(InvalidRow, filled_by, (PAIRS, ("rest",)), None)
        self.assertRaises(InvalidPieces, filled_by, LETS, None)

    def test_what_would_be_no_tree(self):
        twice = ((("any", "a"),), ("apply", ("fill", "a"), ("fill", "a")))
        self.assertTrue(is_tree(filled_by(twice, (broad(499),))))
        self.assertRaises(InvalidTree, filled_by, twice, (broad(500),))
        deeper = ((("any", "a"),), ("given", ("x", ()), ("fill", "a")))
        self.assertTrue(is_tree(filled_by(deeper, (chain(59),))))
        self.assertRaises(InvalidTree, filled_by, deeper, (chain(60),))
        run = ("each", ("fill", "e"))
        many = ((each(("any", "e")),), ("make", ("m", ()), (run, run)))
        self.assertEqual(len(filled_by(many, (ONE,) * 3)[2]), 6)
        self.assertRaises(InvalidTree, filled_by, many, (ONE,) * 4)
        # Too great a form behind a step that does not use the rest does no harm.
        row = ((("any", "a"), each(("any", "e"))), ("fold", ("fill", "e"), ("apply", ("fill", "a"), ("fill", "a"))))
        self.assertEqual(filled_by(row, (broad(900), ONE)), ONE)
        self.assertRaises(InvalidTree, filled_by, row, (broad(900),))


class Point20(unittest.TestCase):
    def test_unrolled(self):
        for turns, many in ((0, 1), (1, 3), (2, 5)):
            pattern, form = unrolled(LETS, turns)
            self.assertEqual(len(pattern), many)
            self.assertEqual([piece[0] for piece in pattern], ["name", "any"] * turns + ["any"])
            holes = [piece[1] for piece in pattern]
            self.assertEqual(len(set(holes)), many)
            self.assertEqual(holes[-1], "b")
            self.assertFalse({"n", "e"} & set(holes), "fresh ones are no holes of the wide row")
            for at in range(turns):
                self.assertEqual(form[:3], ("hold", ("fill", holes[2 * at]), ("fill", holes[2 * at + 1])))
                form = form[3]
            self.assertEqual(form, ("fill", "b"))

    def test_fresh_holes_are_words(self):
        row = ((("any", "a"), each(("name", "b"), ("any", "c")), ("any", "d")), ("fill", "a"))
        holes = [piece[1] for piece in unrolled(row, 2)[0]]
        self.assertEqual(len(set(holes)), 6)
        self.assertFalse(set(holes[1:5]) & {"a", "b", "c", "d"})

    def test_words_and_amounts_in_a_run(self):
        row = ((each(("word", ("w", (2,))), FIVE),), ONE)
        self.assertEqual(unrolled(row, 2), ((("word", ("w", (2,))), FIVE) * 2, ONE))
        self.assertEqual(unrolled(row, 0), ((), ONE))

    def test_numbers_of_turns(self):
        for row, most in ((LETS, 2), (SUM, 5), (((each(FIVE),), ONE), 6), (((each(FIVE, FIVE, FIVE),), ONE), 2),
                          (((FIVE,), ONE), 0), (((), ONE), 0), ((numbered("any", 5) + (each(FIVE, FIVE),), ONE), 0)):
            for turns in range(most + 1):
                self.assertTrue(is_tree(("maker", ("m", ()), (unrolled(row, turns),), ONE)))
            for turns in (-1, most + 1, True, None, "1"):
                self.assertRaises(InvalidNumber, unrolled, row, turns)
        self.assertRaises(InvalidRow, unrolled, (PAIRS, ("rest",)), None)

    def test_what_could_stand_in_no_maker(self):
        run = ("each", ("fill", "e"))
        row = ((each(("any", "e")),), ("make", ("m", ()), (run, run)))
        self.assertEqual(len(unrolled(row, 3)[1][2]), 6)
        self.assertRaises(InvalidTree, unrolled, row, 4)
        # For each turn a piece of the pattern, an apply and what is beside the rest; the end, the maker, its body.
        def great(size, beside):
            pattern = numbered("any", beside) + (each(("any", "e")),)
            return (pattern, ("fold", ("apply", ("rest",), broad(size)), ONE))
        self.assertTrue(unrolled(great(164, 0), 6))
        self.assertRaises(InvalidTree, unrolled, great(165, 0), 6)
        self.assertTrue(unrolled(great(165, 0), 5))
        self.assertTrue(unrolled(great(197 - 1, 2), 4))
        step = ("rest",)
        for _ in range(10):
            step = ("given", ("x", ()), step)
        deep = ((each(("any", "e")),), ("fold", step, chain(9)))
        self.assertTrue(unrolled(deep, 5))
        self.assertRaises(InvalidTree, unrolled, deep, 6)

    def test_takes_the_same_pieces(self):
        """Of point [3]: what an unrolled row takes and is made to, in the work of a maker, told by filling."""
        many = 0
        for row in grown_rows(150):
            for picks in [Picks(seed) for seed in range(8)]:
                number = picks.one_of(piece_numbers(row[0]))
                turns = [at for at in range(7) if len(spread_by_hand(row[0], at)) == number][0] if any(
                    [piece[0] == "each" for piece in row[0]]) else 0
                pieces = tuple([picks.one_of(PIECES) for _ in range(number)])
                try:
                    told = unrolled(row, turns)
                except InvalidTree:
                    continue
                tree = ("maker", ("top", ()), (told,), ("make", ("top", ()), pieces))
                result = made_once((tree, ()), (1,))
                if taken_by(row[0], pieces) is None:
                    self.assertEqual(result[2], "row")
                else:
                    many += 1
                    self.assertEqual(bared_tree(part_by(result[1][0], (1,))), filled_by(row, pieces))
        self.assertGreater(many, 100)


PIECES = [ONE, FIVE, use("x"), use("w"), use("y"), read_tree("(+ x 1)")]


def grown_rows(many):
    return [row for row in [grown_row(Picks(seed)) for seed in range(many)] if is_wide_row(row)]


def grown_row(picks):
    def piece(word):
        kind = picks.one_of(("any", "any", "name", "word", "amount"))
        return {"word": ("word", ("w", ())), "amount": FIVE}.get(kind, (kind, word))
    pattern = [piece("h" + letter) for letter in "abc"[:picks.below(4)]]
    run = tuple([piece("r" + letter) for letter in "ab"[:1 + picks.below(2)]])
    if picks.below(4):
        pattern.insert(picks.below(len(pattern) + 1), ("each", run))
    single = [piece for piece in pattern if piece[0] in ("any", "name")]
    both = single + [piece for piece in run if piece[0] in ("any", "name")]
    return (tuple(pattern), grown_form(picks, 3, "form", single, both, len(pattern) != len(single) and ("each", run) in pattern))


def grown_form(picks, left, place, single, both, has_run):
    holes = both if place in ("run", "step") else single

    def name():
        names = [piece[1] for piece in holes if piece[0] == "name"]
        return ("fill", picks.one_of(names)) if names and picks.below(2) else (picks.one_of("xyz"), ())
    if left == 0 or picks.below(6) == 0:
        if place == "step" and picks.below(2):
            return ("rest",)
        return ("fill", picks.one_of(holes)[1]) if holes and picks.below(3) else picks.one_of(PIECES)
    kind = picks.one_of(("given", "hold", "apply", "make", "make", "fold", "fold"))
    inner = "form" if place in ("form", "piece") else place

    def kid():
        return grown_form(picks, left - 1, inner, single, both, has_run)
    if kind == "fold" and inner == "form" and has_run:
        return ("fold", grown_form(picks, left - 1, "step", single, both, has_run), kid())
    if kind == "make":
        kids = [kid() for _ in range(picks.below(3))]
        if inner == "form" and has_run and picks.below(2):
            kids.append(("each", grown_form(picks, left - 1, "run", single, both, has_run)))
        return ("make", (picks.one_of("xyz"), ()), tuple(kids))
    if kind == "given":
        return ("given", name(), kid())
    if kind == "hold":
        return ("hold", name(), kid(), kid())
    return ("apply", kid(), kid())


class Narrowed(unittest.TestCase):
    def test_rows(self):
        base = ((), ("amount", 0))
        self.assertEqual([len(pattern) for pattern, _ in narrowed((base, SUM), (0, 1, 2, 3))], [0, 1, 2, 3])
        self.assertEqual([len(pattern) for pattern, _ in narrowed((SUM, base), (0, 1, 3))], [1, 3, 0])
        self.assertEqual(narrowed((LETS,), (0, 2, 4, 6)), ())
        self.assertEqual(narrowed((LETS, base), (0, 1)), (unrolled(LETS, 0), unrolled(base, 0)))
        self.assertEqual([len(pattern) for pattern, _ in narrowed((LETS,) * 2, (1, 3))], [1, 3, 1, 3])

    def test_too_many(self):
        self.assertEqual(len(narrowed((SUM,), (1, 2, 3, 4))), 4)
        with self.assertRaises(TooMany) as caught:
            narrowed((SUM,), (1, 2, 3, 4, 5))
        self.assertEqual(caught.exception.limit, 4)
        run = ("each", ("fill", "e"))
        row = ((each(("any", "e")),), ("make", ("m", ()), (run, run)))
        self.assertEqual(len(narrowed((row,), (0, 1, 2, 3))), 4)
        self.assertRaises(InvalidTree, narrowed, (row,), (0, 4))
        self.assertRaises(InvalidTree, narrowed, (row,), (0, 1, 2, 3, 4))

    def test_errors(self):
        for rows in ((), None, [LETS], (LETS,) * 7, (LETS, None), LETS):
            self.assertRaises(InvalidRows, narrowed, rows, None)
        for numbers in ((), (1, 1), (2, 1), (7,), (-1,), (True,), [1], None, 1, (0, 1, 2, 3, 4, 5, 6, 7), (1, 7), (-1, 0),
                        (0, True), (1, 3, 3), (1, None)):
            self.assertRaises(InvalidNumber, narrowed, (LETS,), numbers)
        self.assertEqual(len(narrowed((LETS,), (0, 1, 2, 3, 4, 5, 6))), 3)
        self.assertEqual(len(narrowed(((numbered("any", 6), ONE),) * 4, (6,))), 4)


def takes_by_hand(pattern, pieces):
    for turns in range(7):
        row = spread_by_hand(pattern, turns)
        if len(row) == len(pieces) and all([fits_by_hand(*pair) for pair in zip(row, pieces)]):
            return True
    return False


# Enough trees to tell all patterns below apart: words and amounts in them, and some that stand in none.
WORLD = [ONE, FIVE, ("amount", 77), use("w"), use("v"), use("other"), ("make", ("m", ()), ())]
SMALL_PIECES = [ANY, NAME, FIVE, ONE, ("word", ("w", ())), ("word", ("v", ()))]


def small_patterns():
    patterns = [()] + [(one,) for one in SMALL_PIECES]
    patterns += [((one[0], "a") if one in (ANY, NAME) else one, (two[0], "b") if two in (ANY, NAME) else two)
                 for one in SMALL_PIECES[:5] for two in SMALL_PIECES[:5]]
    patterns += [(each(one),) for one in SMALL_PIECES]
    patterns += [(each(one), ("any", "z")) for one in SMALL_PIECES] + [(("name", "z"), each(one)) for one in SMALL_PIECES]
    return patterns + [(each(("name", "n"), ("any", "e")), ("any", "z"))]


class Point21(unittest.TestCase):
    def test_wider(self):
        """All small patterns, by all pieces of a small world; what takes seven kinds of trees takes all."""
        patterns = small_patterns()
        world = [pieces for many in range(4) for pieces in product(WORLD, repeat=many)]
        taken = {pattern: {pieces for pieces in world if takes_by_hand(pattern, pieces)} for pattern in patterns}
        for one in patterns:
            for other in patterns:
                if all([number <= 3 for number in piece_numbers(other)]) or each_alike(one, other):
                    self.assertIs(is_wider(one, other), taken[one] >= taken[other], (one, other))
                elif is_wider(one, other):
                    self.assertTrue(taken[one] >= taken[other], (one, other))

    def test_wider_by_hand(self):
        for one, other, expected in (((ANY,), (NAME,), True), ((NAME,), (ANY,), False), ((NAME,), (("word", ("w", ())),), True),
                                     ((("word", ("w", ())),), (NAME,), False), ((ANY,), (FIVE,), True), ((NAME,), (FIVE,), False),
                                     ((("word", ("w", ())),), (("word", ("w", (1,))),), False), ((FIVE,), (ONE,), False),
                                     ((each(ANY),), numbered("any", 6), True), (numbered("any", 6), (each(ANY),), False),
                                     ((each(ANY),), (each(FIVE, FIVE),), True), ((each(FIVE, FIVE),), (each(FIVE),), False),
                                     (numbered("any", 5) + (each(FIVE, FIVE),), (FIVE,) * 5, True),
                                     ((each(ANY), NAME[:1] + ("y",)), (each(ANY), ("any", "y")), False), ((), (), True)):
            self.assertIs(is_wider(one, other), expected, (one, other))

    def test_row_taking(self):
        rows = (((FIVE,), ONE), ((NAME,), ONE), ((each(ANY),), ONE), ((ANY,), ONE))
        for text, index in (("5", 0), ("x", 1), ("6", 2), ("", 2), ("1 2 3 4 5 6", 2)):
            self.assertEqual(row_taking(rows, pieces_of(text)), index)
        self.assertIsNone(row_taking(rows[:2], pieces_of("6")))
        self.assertIsNone(row_taking(rows[:2], ()))

    def test_lost(self):
        rows = (((each(ANY),), ONE), ((NAME,), ONE), ((), ONE))
        self.assertEqual(lost_rows(rows), [1, 2])
        self.assertEqual(lost_paper(rows, 1), ((1, 0),))
        self.assertIsNone(lost_paper(rows, 0))
        # No single row ahead is wider for all numbers, but one is for each.
        rows = (((ANY,), ONE), ((("any", "a"), ("any", "b")), ONE), ((NAME, each(("name", "n"), FIVE, FIVE)), ONE),
                ((("name", "a"), each(("any", "b"), FIVE, FIVE)), ONE))
        self.assertEqual(lost_rows(rows), [])
        rows = (((ANY,), ONE), ((("any", "a"),) + numbered("any", 3), ONE), ((NAME, each(("name", "n"), FIVE, FIVE)), ONE))
        self.assertEqual(lost_rows(rows), [2])
        self.assertEqual(lost_paper(rows, 2), ((1, 0), (4, 1)))
        self.assertIsNone(pieces_for(rows, 2))

    def test_lost_by_several_rows_together_is_not_lost(self):
        rows = (((NAME, ("amount", 1)), ONE), ((NAME, ("any", "y")), ONE), ((("amount", 1), ("any", "y")), ONE),
                ((ANY, ("any", "y")), ONE))
        self.assertEqual(lost_rows(rows), [])

    def test_papers_and_pieces(self):
        """A row is never come to just if it has a lost paper, and pieces for a row come to it."""
        patterns = small_patterns()
        lost = 0
        for seed in range(250):
            picks = Picks(seed)
            rows = tuple([(picks.one_of(patterns), ONE) for _ in range(1 + picks.below(6))])
            found = lost_rows(rows)
            for index in range(len(rows)):
                paper, pieces = lost_paper(rows, index), pieces_for(rows, index)
                self.assertIs(index in found, paper is not None)
                self.assertIs(paper is None, pieces is not None)
                if pieces is None:
                    lost += 1
                    self.assertTrue(is_lost_paper(rows, index, paper))
                    self.assertFalse([world for many in range(4) for world in product(WORLD, repeat=many)
                                      if row_taking_by_hand(rows, world) == index])
                else:
                    self.assertEqual(row_taking(rows, pieces), index)
                    self.assertEqual(row_taking_by_hand(rows, pieces), index)
        self.assertGreater(lost, 100)

    def test_pieces_for_words_that_are_taken(self):
        words = tuple([(("word", (letter, ())),) for letter in "abcde"])
        rows = tuple([(pattern, ONE) for pattern in words]) + (((NAME,), ONE),)
        self.assertEqual(row_taking(rows, pieces_for(rows, 5)), 5)
        inner = ((each(("word", ("a", ()))), ONE), ((each(NAME),), ONE))
        rows = (((each(("word", ("a", ()))),), ONE), ((each(NAME),), ONE))
        self.assertEqual(row_taking(rows, pieces_for(rows, 1)), 1, inner)

    def test_lost_papers(self):
        rows = (((each(ANY),), ONE), ((("name", "n"), each(FIVE)), ONE), ((NAME, each(FIVE, FIVE)), ONE))
        good = ((1, 0), (3, 1), (5, 0))
        self.assertTrue(is_lost_paper(rows, 2, good))
        self.assertTrue(is_lost_paper(rows, 2, ((1, 1), (3, 0), (5, 1))))
        for value in (good[:2], good + ((6, 0),), ((1, 0), (5, 0), (3, 1)), ((1, 0), (3, 2), (5, 0)), ((1, 0), (3, -1), (5, 0)),
                      [(1, 0), (3, 1), (5, 0)], ((1, 0), [3, 1], (5, 0)), ((1, 0), (3, True), (5, 0)), ((True, 0), (3, 1), (5, 0)),
                      ((1, False), (3, 1), (5, 0)), ((1, 0), (3,), (5, 0)), ((1, 0), (3, 1, 1), (5, 0)), (), None, ((1, 0),) * 3,
                      ((1, 0), (2, 0), (3, 1), (5, 0)), ((1, 0), (3, 10 ** 100), (5, 0)), ((1, 0), (3, None), (5, 0))):
            self.assertFalse(is_lost_paper(rows, 2, value), value)
        narrow = (((FIVE,), ONE), rows[0], rows[0])
        self.assertTrue(is_lost_paper(narrow, 2, tuple([(number, 1) for number in range(7)])))
        self.assertFalse(is_lost_paper(narrow, 2, tuple([(number, 0 if number == 1 else 1) for number in range(7)])))
        self.assertFalse(is_lost_paper(rows, 0, tuple([(number, 0) for number in range(7)])))
        self.assertFalse(is_lost_paper((rows[1], rows[0]), 1, tuple([(number, 0) for number in range(7)])), "not wider")

    def test_numbers_of_rows(self):
        row = ((ANY,), ONE)
        self.assertEqual(lost_rows((row,)), [])
        self.assertEqual(lost_rows((row,) * 6), [1, 2, 3, 4, 5])
        for rows in ((), (row,) * 7, [row], (row, ONE), None):
            for function in (lost_rows, lambda told: row_taking(told, None), lambda told: pieces_for(told, None),
                             lambda told: lost_paper(told, None), lambda told: is_lost_paper(told, None, None)):
                self.assertRaises(InvalidRows, function, rows)

    def test_errors(self):
        rows = (((ANY,), ONE),) * 2
        for index in (-1, 2, True, None, "0"):
            for function in (pieces_for, lost_paper, lambda told, at: is_lost_paper(told, at, None)):
                self.assertRaises(InvalidNumber, function, rows, index)
        self.assertRaises(InvalidPieces, row_taking, rows, [ONE])
        self.assertRaises(InvalidPattern, is_wider, (each(),), None)
        self.assertRaises(InvalidPattern, is_wider, (), (each(),))


def each_alike(one, other):
    """Whether what takes up to three pieces tells what takes more: each run is one piece, each row short."""
    return all([len(piece[1]) == 1 for pattern in (one, other) for piece in pattern if piece[0] == "each"]) and any(
        [piece[0] == "each" for piece in one])


def row_taking_by_hand(rows, pieces):
    return next((index for index, (pattern, _) in enumerate(rows) if takes_by_hand(pattern, pieces)), None)


if __name__ == "__main__":
    unittest.main()
