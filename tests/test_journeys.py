"""Points [44] to [46] and [79] to [84]: journeys, origins, stops, texts, ways and benches."""

import inspect
import unittest

from namesapart.errors import CannotMake, InvalidJourney, InvalidNumber, InvalidOrder, InvalidPath, InvalidStops, NothingToRedo, NothingToUndo
from namesapart.lifebenches import Bench
from namesapart.lifejourneys import is_journey, made_further, next_use, taken_back, work_of, works_of
from namesapart.lifeorigins import origin_of, parts_from, trail_of
from namesapart.lifestops import is_stop, led_to_stop, stops_at
from namesapart.lifetexts import journey_text, read_journey
from namesapart.lifevalues import Way
from namesapart.makings import made_by, made_once, outermost_uses, row_for
from namesapart.meanings import fresh_work
from namesapart.shapes import parts_in
from namesapart.texts import tree_text
from namesapart.trees import all_paths, part_at, tree_size
from tests.growing import A, B, C, E, F, ODD_VALUES, Picks, broad, grown_tree, nested, read_tree

# Each use brings another one, without end.
LOOP = "(maker m (row (any:a) (make m (+ ?a 1))) (make m 0))"
# Two uses beside one another, of two rows.
BESIDE = "(maker m (row () 1) (row (any:a) (+ ?a (make m))) (* (make m) (make m x)))"
# The one is made, the other one is stopped.
HALF = "(maker m (row () 1) (+ (make m) (make z)))"


def fresh(text):
    return (read_tree(text), ())


def grown_journey(seed, most=40, with_marks=False):
    """A journey by uses picked at any place."""
    picks = Picks(seed + 11)
    tree = grown_tree(seed, with_marks)
    work, order = fresh_work(tree), ()
    for _ in range(picks.below(most + 1)):
        uses = [path for path in outermost_uses(work) if made_once(work, path)[0] == "made"]
        if not uses:
            break
        path = picks.one_of(uses)
        work, order = made_once(work, path)[1], order + (path,)
    return (tree, order), work


def grown_journeys(many, least):
    """Journeys of at least so many makings."""
    found, seed = [], 0
    while len(found) < many:
        journey, _ = grown_journey(seed, 12, seed % 3 == 0)
        if len(journey[1]) >= least:
            found.append(journey)
        seed += 1
    return found


def loop(many):
    return (read_tree(LOOP), ((1,),) * many)


class Point44(unittest.TestCase):
    def test_journeys(self):
        for text, order in ((A, ()), (A, ((1, 1, 1),)), (B, ((1, 1),)), (BESIDE, ((2, 0),)), (BESIDE, ((2, 1), (2, 0))),
                            (BESIDE, ((2, 0), (2, 1), (2, 1, 1))), (BESIDE, ((2, 1), (2, 1, 1), (2, 0))), ("x", ()), ("(make m)", ())):
            self.assertIs(is_journey((read_tree(text), order)), True, (text, order))
        for text, order in ((A, ((1,),)), (A, ((1, 1, 1), (1, 1, 1))), (A, ((),)), (A, [(1, 1, 1)]), (A, ([1, 1, 1],)), (A, (1,)), (A, None),
                            (A, ((1, True, 1),)), (A, ((1, 1, -1),)), (BESIDE, ((2, 1, 1),)), (BESIDE, ((1, 1),)), (HALF, ((1, 1),)), ("(make m)", ((),)),
                            (LOOP, ((0,),)), (A, ((1, 1, 1), 1)), (A, ("111",))):
            self.assertIs(is_journey((read_tree(text), order)), False, (text, order))
        for value in ODD_VALUES + (nested(300), [read_tree(A), ()], (read_tree(A),), (read_tree(A), (), ())):
            self.assertIs(is_journey(value), False)
            self.assertIs(is_journey((value, ())), False)

    def test_forty_makings(self):
        self.assertIs(is_journey(loop(40)), True)
        self.assertIs(is_journey(loop(41)), False)
        self.assertEqual(len(works_of(loop(40))), 41)
        self.assertEqual(next_use(loop(40)), (1,))
        self.assertEqual(made_further(loop(0), loop(40)[1]), loop(40))
        self.assertRaises(CannotMake, made_further, loop(40), ((1,),))
        self.assertRaises(CannotMake, made_further, loop(20), ((1,),) * 21)
        self.assertRaises(InvalidOrder, made_further, loop(0), ((1,),) * 41)

    def test_great_trees(self):
        # The second making would bring more than a tree has.
        text = "(maker m (row (any:a) (+ ?a (+ ?a ?a))) (make m (make m {})))".replace("{}", tree_text(broad(150)))
        tree = read_tree(text)
        self.assertIs(is_journey((tree, ((1,),))), True)
        self.assertIs(is_journey((tree, ((1,), (1, 0)))), True)
        self.assertIs(is_journey((tree, ((1,), (1, 0), (1, 1, 0)))), False)
        self.assertEqual(stops_at((tree, ((1,), (1, 0))), (("end",), ("maker", "m"), ("row", 0))), (("end",), ("maker", "m")))

    def test_works(self):
        for seed in range(120):
            journey, work = grown_journey(seed, 12, seed % 3 == 0)
            works = works_of(journey)
            self.assertEqual(work_of(journey), work)
            self.assertEqual(works[0], fresh_work(journey[0]))
            self.assertEqual(works[-1], work)
            self.assertEqual([len(one[1]) for one in works], list(range(len(journey[1]) + 1)))
            for number, path in enumerate(journey[1]):
                self.assertEqual(made_once(works[number], path), ("made", works[number + 1]))
            self.assertEqual(next_use(journey), outermost_uses(work)[0] if outermost_uses(work) else None)

    def test_next_use(self):
        self.assertEqual(next_use(fresh(BESIDE)), (2, 0))
        self.assertEqual(next_use((read_tree(BESIDE), ((2, 0),))), (2, 1))
        self.assertIsNone(next_use((read_tree(BESIDE), ((2, 0), (2, 1), (2, 1, 1)))))
        # Also where it would be stopped.
        self.assertEqual(next_use((read_tree(HALF), ((1, 0),))), (1, 1))
        self.assertEqual(next_use(fresh("(make m)")), ())
        self.assertIsNone(next_use(fresh("(maker m (row () (make m)) 1)")))

    def test_made_further(self):
        start = fresh(BESIDE)
        self.assertEqual(made_further(start, ()), start)
        self.assertEqual(made_further(start, ((2, 1), (2, 0))), (start[0], ((2, 1), (2, 0))))
        self.assertEqual(made_further((start[0], ((2, 1),)), ((2, 0), (2, 1, 1))), (start[0], ((2, 1), (2, 0), (2, 1, 1))))
        for order in (((2,),), ((2, 0), (2, 0)), ((-1,),), ((2, 0), ()), ((10 ** 30,),)):
            self.assertRaises(CannotMake, made_further, start, order)
        self.assertRaises(CannotMake, made_further, fresh(HALF), ((1, 1),))
        for order in ([(2, 0)], ((2, 0), [2]), ((True,),), ((2, "0"),), ((2, None),), (2, 0), None, (((),),)):
            self.assertRaises(InvalidOrder, made_further, start, order)
            self.assertRaises(InvalidJourney, made_further, (start[0], ((1,),)), order)

    def test_taken_back(self):
        journey = loop(7)
        for many in range(8):
            self.assertEqual(taken_back(journey, many), loop(7 - many))
        for many in (-1, 8, True, None, "1"):
            self.assertRaises(InvalidNumber, taken_back, journey, many)
        self.assertRaises(InvalidNumber, taken_back, loop(0), 1)

    def test_back_and_on_again(self):
        """Point [3]: a journey taken back and made on again, from a text too, comes to the same works."""
        for journey in grown_journeys(60, 1):
            works = works_of(journey)
            for many in range(len(journey[1]) + 1):
                back = taken_back(journey, many)
                self.assertEqual(works_of(back), works[:len(works) - many])
                for start in (back, read_journey(journey_text(back))):
                    again = made_further(start, journey[1][len(journey[1]) - many:])
                    self.assertEqual(again, journey)
                    self.assertEqual(works_of(again), works)
                way = Way.read(str(Way(back)))
                for path in journey[1][len(journey[1]) - many:]:
                    way += path
                self.assertEqual(way.journey, journey)
                self.assertEqual((way.tree, way.makings), works[-1])


class Point45(unittest.TestCase):
    def test_first_trees(self):
        for text in (A, B, C, E, F, BESIDE):
            start = fresh(text)
            for path in all_paths(start[0]):
                self.assertEqual(origin_of(start, path), (0, path))
                self.assertEqual(trail_of(start, path), ((0, path),))
            self.assertEqual(parts_from(start, 0), all_paths(start[0]))

    def test_forms_and_pieces(self):
        journey = (read_tree("(maker m (row (any:a name:n) (hold ?n (+ ?a 1) (* ?a ?n))) (make m (- 8 9) y))"), ((1,),))
        self.assertEqual(tree_text(work_of(journey)[0]),
                         "(maker m (row (any:a name:n) (hold ?n (+ ?a 1) (* ?a ?n))) (hold y (+ (- 8 9) 1) (* (- 8 9) y)))")
        for path, origin in (((1,), (1, ())), ((1, 0), (1, (0,))), ((1, 0, 0), (0, (1, 0))), ((1, 0, 0, 0), (0, (1, 0, 0))),
                             ((1, 0, 0, 1), (0, (1, 0, 1))), ((1, 0, 1), (1, (0, 1))), ((1, 1), (1, (1,))), ((1, 1, 0), (0, (1, 0))),
                             ((1, 1, 0, 1), (0, (1, 0, 1))), ((1, 1, 1), (0, (1, 1))), ((), (0, ())), ((0,), (0, (0,))),
                             ((0, 0, 0), (0, (0, 0, 0)))):
            self.assertEqual(origin_of(journey, path), origin, path)
        self.assertEqual(parts_from(journey, 1), [(1,), (1, 0), (1, 0, 1), (1, 1)])
        self.assertEqual(trail_of(journey, (1, 0, 1)), ((1, (0, 1)), (0, (0, 0, 1))))
        self.assertEqual(trail_of(journey, (1, 1, 0, 1)), ((0, (1, 0, 1)),))

    def test_what_stands_around_keeps_its_origins(self):
        journey = (read_tree(BESIDE), ((2, 1), (2, 1, 1), (2, 0)))
        self.assertEqual(tree_text(part_at(work_of(journey)[0], (2,))), "(* 1 (+ x 1))")
        for path, trail in (((2,), ((0, (2,)),)), ((2, 0), ((3, ()), (0, (0,)))), ((2, 1), ((1, ()), (0, (1,)))),
                            ((2, 1, 0), ((0, (2, 1, 0)),)), ((2, 1, 1), ((2, ()), (0, (0,)))), ((1, 1), ((0, (1, 1)),))):
            self.assertEqual(trail_of(journey, path), trail)

    def test_makers_that_forms_bring(self):
        journey = (read_tree(E), ((1, 1, 1),))
        path = journey[1][0]
        self.assertEqual(origin_of(journey, path), (1, ()))
        self.assertEqual(part_at(work_of(journey)[0], path)[0], "maker")
        # Of the inner row: its form has a piece of the outer use, and a fill of its own that stays.
        self.assertEqual([origin_of(journey, path + (0,) + rest) for rest in ((), (0,), (0, 0), (0, 1), (1, 0))],
                         [(1, (0,)), (1, (0, 0)), (0, path + (0,)), (1, (0, 0, 1)), (0, path + (1,))])

    def test_trails_through_several_makings(self):
        journey = loop(3)
        self.assertEqual(tree_text(part_at(work_of(journey)[0], (1,))), "(make m@3 (+ (+ (+ 0 1) 1) 1))")
        self.assertEqual(trail_of(journey, (1,)), ((3, ()), (0, (0,))))
        self.assertEqual(trail_of(journey, (1, 0)), ((3, (0,)), (0, (0, 0))))
        self.assertEqual(trail_of(journey, (1, 0, 1)), ((3, (0, 1)), (0, (0, 0, 1))))
        self.assertEqual(trail_of(journey, (1, 0, 0)), ((2, (0,)), (0, (0, 0))))
        self.assertEqual(trail_of(journey, (1, 0, 0, 0, 0)), ((0, (1, 0)),))
        self.assertEqual([parts_from(journey, number) for number in (1, 2, 3)],
                         [[(1, 0, 0, 0), (1, 0, 0, 0, 1)], [(1, 0, 0), (1, 0, 0, 1)], [(1,), (1, 0), (1, 0, 1)]])

    def test_trails_through_rows_that_were_brought(self):
        # The inner maker is brought by the first making, its form by the second one.
        text = "(maker out (row (any:a) (maker in (row (any:b) (+ ?a (* ?b 7))) (make in 5))) (make out 3))"
        journey = (read_tree(text), ((1,), (1, 1)))
        self.assertEqual(tree_text(part_at(work_of(journey)[0], (1, 1))), "(+ 3 (* 5 7))")
        for rest, trail in (((), ((2, ()), (1, (0,)), (0, (0, 0)))), ((1,), ((2, (1,)), (1, (0, 1)), (0, (0, 0, 1)))),
                            ((1, 1), ((2, (1, 1)), (1, (0, 1, 1)), (0, (0, 0, 1, 1)))), ((1, 0), ((1, (1, 0)), (0, (0, 1, 0)))),
                            # It came into the inner form as a piece of the outer use, and from there as a part of the form.
                            ((0,), ((2, (0,)), (0, (1, 0))))):
            self.assertEqual(trail_of(journey, (1, 1) + rest), trail)
        self.assertEqual(origin_of(journey, (1, 0, 1, 0)), (1, (0, 1, 0)))
        self.assertEqual(part_at(work_of(journey)[0], (1, 0, 1, 0)), ("fill", "b"))

    def test_origins_again(self):
        """Origins by a second telling, that marks each part of a tree by an amount of its own."""
        for journey in grown_journeys(60, 2):
            works = works_of(journey)
            kept = {path: (0, path) for path in all_paths(journey[0])}
            for number, path in enumerate(journey[1]):
                kept = kept_behind(kept, works[number], path, number + 1)
                self.assertEqual(sorted(kept), all_paths(works[number + 1][0]))
                back = taken_back(journey, len(journey[1]) - number - 1)
                for part in sorted(kept):
                    self.assertEqual(origin_of(back, part), kept[part])
            for number in range(len(journey[1]) + 1):
                self.assertEqual(parts_from(journey, number), sorted([part for part in kept if kept[part][0] == number]))

    def test_trails_end_in_the_first_tree(self):
        """Point [3]: each trail ends at a part of the first tree, which has the same word ahead."""
        longest = 0
        for journey in grown_journeys(80, 1) + [led_to_stop(fresh(text), (), 40) for text in (A, B, C, E, F, LOOP, BESIDE)]:
            tree = work_of(journey)[0]
            for part in all_paths(tree):
                trail = trail_of(journey, part)
                self.assertEqual(trail[0], origin_of(journey, part))
                self.assertEqual(trail[-1][0], 0)
                numbers = [number for number, _ in trail]
                self.assertEqual(numbers, sorted(set(numbers))[::-1])
                self.assertEqual(part_at(journey[0], trail[-1][1])[0], part_at(tree, part)[0])
                longest = max(longest, len(trail))
        self.assertGreater(longest, 2)

    def test_errors(self):
        journey = loop(3)
        for part in ((2,), (1, 0, 0, 0, 0, 0), (True,), [1], 1, None, (-1,)):
            self.assertRaises(InvalidPath, origin_of, journey, part)
            self.assertRaises(InvalidPath, trail_of, journey, part)
        for number in (-1, 4, True, None):
            self.assertRaises(InvalidNumber, parts_from, journey, number)


def kept_behind(kept, work, path, number):
    """The origins by path behind a making, told path by path."""
    pieces = part_at(work[0], path)[2]
    maker = made_once(work, path)[1][1][-1]
    pattern, form = part_at(work[0], maker)[2][row_for(work, path)]
    holes = {piece[1]: at for at, piece in enumerate(pattern[:len(pieces)]) if piece[0] in ("any", "name")}
    told = {part: origin for part, origin in kept.items() if part[:len(path)] != path}
    todo = [((), form)]
    while todo:
        at, part = todo.pop()
        if part[0] == "fill" and part[1] in holes:
            piece = path + (holes[part[1]],)
            told.update({path + at + one[len(piece):]: kept[one] for one in kept if one[:len(piece)] == piece})
        else:
            told[path + at] = (number, at)
            todo.extend([(at + (index,), kid) for index, kid in enumerate(parts_in(part))])
    return told


class Point46(unittest.TestCase):
    def test_stops(self):
        for stop in (("end",), ("maker", "m"), ("row", 0), ("row", 3), ("number", 0), ("number", 40), ("size", 1), ("size", 1000)):
            self.assertIs(is_stop(stop), True, stop)
        for value in (("end", 1), ("end", ()), ("maker",), ("maker", "row"), ("maker", ("m", ())), ("maker", 1), ("row", 4), ("row", -1),
                      ("row", True), ("number", 41), ("number", -1), ("number", None), ("size", 0), ("size", 1001), ("size", "1"),
                      ["end"], "end", ("ends",), (), ("row", 0, 0), ("row", (0,)), (("end",),), ("stop", 1)) + ODD_VALUES:
            self.assertIs(is_stop(value), False, value)

    def holding(self, journey, *kinds):
        stops = [("end",)] + [("maker", word) for word in ("m", "z")] + [("row", index) for index in range(4)]
        return [stop for stop in stops if stops_at(journey, (stop,)) == (stop,)]

    def test_which_hold(self):
        for journey, told in ((fresh(BESIDE), [("maker", "m"), ("row", 0)]),
                              ((read_tree(BESIDE), ((2, 0),)), [("maker", "m"), ("row", 1)]),
                              ((read_tree(BESIDE), ((2, 0), (2, 1), (2, 1, 1))), [("end",)]), (fresh("x"), [("end",)]),
                              # A next use that would be stopped is one all the same, but is made by no row.
                              ((read_tree(HALF), ((1, 0),)), [("end",), ("maker", "z")]), (loop(40), [("end",), ("maker", "m")]),
                              (fresh("(maker m (row () 1) (make m 2))"), [("end",), ("maker", "m")])):
            self.assertEqual(self.holding(journey), told)

    def test_numbers_and_sizes(self):
        for many in (0, 1, 39, 40):
            size = tree_size(work_of(loop(many))[0])
            for number in range(41):
                self.assertEqual(stops_at(loop(many), (("number", number),)), (("number", number),) * (number == many))
            for least in (1, size - 1, size, size + 1, 1000):
                self.assertEqual(stops_at(loop(many), (("size", least),)), (("size", least),) * (least <= size))

    def test_rows_of_four(self):
        text = "(maker m (row () 1) (row (any:a) 2) (row (any:a any:b) 3) (row (any:a any:b any:c) 4) (make m {}))"
        for index in range(4):
            self.assertEqual(self.holding(fresh(text.replace("{}", "0 " * index))), [("maker", "m"), ("row", index)])

    def test_stops_together(self):
        twelve = tuple([("number", number) for number in range(12)])
        self.assertEqual(stops_at(loop(5), twelve), (("number", 5),))
        self.assertEqual(stops_at(loop(5), ()), ())
        journey = loop(5)
        stops = (("end",), ("maker", "m"), ("maker", "n"), ("number", 5), ("row", 0), ("size", 3))
        self.assertEqual(stops_at(journey, stops), (("maker", "m"), ("number", 5), ("row", 0), ("size", 3)))
        for value in (twelve + (("number", 12),), twelve[::-1], (("end",), ("end",)), (("row", 1), ("row", 0)), [("end",)], ("end",),
                      (("size", 1), ("row", 0)), (("row", 4),), None, (("end",), None), (["end"],)):
            self.assertRaises(InvalidStops, stops_at, journey, value)
            self.assertRaises(InvalidStops, led_to_stop, journey, value, -1)

    def test_led_on(self):
        start = loop(0)
        self.assertEqual(led_to_stop(start, (), 0), start)
        self.assertEqual(led_to_stop(start, (), 40), loop(40))
        self.assertEqual(led_to_stop(loop(30), (), 40), loop(40))
        self.assertEqual(led_to_stop(start, (), 7), loop(7))
        self.assertEqual(led_to_stop(start, (("number", 3),), 40), loop(3))
        self.assertEqual(led_to_stop(start, (("number", 3),), 3), loop(3))
        self.assertEqual(led_to_stop(start, (("number", 3),), 2), loop(2))
        self.assertEqual(led_to_stop(start, (("number", 3), ("number", 5)), 40), loop(3))
        self.assertEqual(led_to_stop(loop(3), (("number", 3), ("number", 5)), 40), loop(5))

    def test_a_stop_that_holds_at_the_start(self):
        # It is asked behind a making alone.
        self.assertEqual(led_to_stop(loop(0), (("maker", "m"),), 40), loop(1))
        self.assertEqual(led_to_stop(loop(0), (("number", 0),), 40), loop(40))
        self.assertEqual(led_to_stop(loop(0), (("size", 1),), 40), loop(1))
        self.assertEqual(led_to_stop(loop(0), (("maker", "m"),), 0), loop(0))

    def test_led_to_an_end(self):
        for text, order in ((BESIDE, ((2, 0), (2, 1), (2, 1, 1))), (HALF, ((1, 0),)), ("x", ()), ("(make m)", ())):
            self.assertEqual(led_to_stop(fresh(text), (("end",),), 40), (read_tree(text), order))
            self.assertEqual(led_to_stop(fresh(text), (), 40), (read_tree(text), order))
        size = tree_size(read_tree(LOOP))
        self.assertEqual(led_to_stop(loop(0), (("size", size + 5),), 40), loop(3))

    def test_led_as_all_is_made(self):
        for seed in range(80):
            tree = grown_tree(seed)
            result = made_by(fresh_work(tree), ())
            led = led_to_stop((tree, ()), (), 40)
            if result[0] == "made":
                self.assertEqual(work_of(led), result[1])
            self.assertEqual(stops_at(led, (("end",),)), (("end",),))

    def test_errors(self):
        for most in (-1, 41, True, None, "1"):
            self.assertRaises(InvalidNumber, led_to_stop, loop(0), (), most)
        self.assertRaises(InvalidJourney, led_to_stop, loop(41), None, -1)


class Point82(unittest.TestCase):
    def test_texts(self):
        self.assertEqual(journey_text(fresh(A)), A)
        self.assertEqual(journey_text((read_tree(A), ((1, 1, 1),))), A + "\n1 1 1")
        self.assertEqual(journey_text(loop(3)), LOOP + "\n1\n1\n1")
        self.assertEqual(journey_text((read_tree(BESIDE), ((2, 1), (2, 0)))), BESIDE + "\n2 1\n2 0")

    def test_read(self):
        for journey in grown_journeys(60, 0) + [loop(40), fresh("x"), fresh("(make m)")]:
            self.assertEqual(read_journey(journey_text(journey)), journey)

    def test_sign_for_sign(self):
        text = BESIDE + "\n2 0\n2 1"
        self.assertEqual(journey_text(read_journey(text)), text)
        for value in (" " + text, text + " ", text + "\n", text + "\n\n", "\n" + text, text.replace("\n", "\n\n", 1),
                      text.replace("2 0", "2  0"), text.replace("2 0", " 2 0"), text.replace("2 0", "2 0 "), text.replace("2 0", "+2 0"),
                      text.replace("2 0", "02 0"), text.replace("2 0", "2 00"), text.replace("2 0", "2 -0"), text.replace("2 0", "2,0"),
                      text.replace("2 0", ""), text.replace("2 0", "()"), text.replace("2 0", "(2, 0)"), text.replace("2 0", "2"),
                      text.replace("\n", "\r\n"), text.replace("(maker m", "(maker  m"), text.replace("(maker m", "( maker m"),
                      text.replace("\n2 0", " \n2 0"), text.replace("2 0", "2 0x"), text.replace("2 0", "2 " + "0" * 5000),
                      text.replace("2 0", "2 1" + "0" * 5000), text + "\n2 0", "", "\n", "(", ")", "(make", "2 0", "(maker m (row () 1)\n2 0 2)",
                      "(" * 300, "(+ 1 2)\n0", "(* 2", "(- 1 1000000000001)", "x@0", "(make m)\n", "X", text.encode()):
            self.assertRaises(InvalidJourney, read_journey, value)
            self.assertRaises(InvalidJourney, Way.read, value)

    def test_long_texts(self):
        tree = ("maker", ("m", ()), (((), ("amount", 1)),), ("reckon", "+", broad(980), ("make", ("m", ()), ())))
        journey = (tree, ((1, 1),))
        self.assertGreater(len(journey_text(journey)), 4000)
        self.assertEqual(read_journey(journey_text(journey)), journey)


class Point83(unittest.TestCase):
    def test_properties(self):
        for text, order in ((A, ()), (A, ((1, 1, 1),)), (BESIDE, ((2, 1),)), (HALF, ((1, 0),)), ("x", ())):
            journey = (read_tree(text), order)
            way = Way(journey)
            self.assertEqual((way.journey, way.tree, way.makings, way.next), (journey, *work_of(journey), next_use(journey)))
            for word in ("journey", "tree", "makings", "next"):
                self.assertIsInstance(vars(Way)[word], property)
                self.assertRaises(AttributeError, setattr, way, word, 1)
            self.assertEqual(len(way), len(order))
            self.assertIs(bool(way), stops_at(journey, (("end",),)) == ())
            self.assertEqual(str(way), journey_text(journey))
            self.assertEqual(Way.read(str(way)).journey, journey)

    def test_each_method_stands_in_the_class(self):
        for word in ("__init__", "read", "__add__", "__iadd__", "__lshift__", "__rshift__", "__getitem__", "__contains__", "__len__",
                     "__bool__", "__str__", "__iter__", "__eq__"):
            self.assertIn(word, vars(Way))
        for word in ("__init__", "do", "__iadd__", "undo", "redo", "attempt", "journey", "tree", "next", "__len__", "__bool__", "__eq__",
                     "lines"):
            self.assertIn(word, vars(Bench))
        self.assertIsInstance(vars(Way)["read"], classmethod)
        self.assertEqual((Way.__module__, Bench.__module__), ("namesapart.lifevalues", "namesapart.lifebenches"))

    def test_wrong_journeys(self):
        for value in ODD_VALUES + ((read_tree(A), ((1,),)), loop(41), nested(300), Way(loop(0))):
            self.assertRaises(InvalidJourney, Way, value)
            self.assertRaises(InvalidJourney, Bench, value)
        for value in (None, 1, ("x",), b"x", Way(fresh("x"))):
            self.assertRaises(InvalidJourney, Way.read, value)

    def test_one_more_making(self):
        way = Way(fresh(BESIDE))
        more = way + (2, 1)
        self.assertIsInstance(more, Way)
        self.assertEqual((more.journey, way.journey), ((read_tree(BESIDE), ((2, 1),)), fresh(BESIDE)))
        self.assertEqual((more + (2, 1, 1) + (2, 0)).makings, ((), (), ()))
        for path in ([2, 1], None, 1, "21", (2, True), (2, None), ((2, 1),), way):
            self.assertRaises(InvalidPath, lambda told: way + told, path)
        for path in ((), (2,), (2, 2), (2, -1), (1, 1), (0,), (10 ** 30,)):
            self.assertRaises(CannotMake, lambda told: way + told, path)
        self.assertRaises(CannotMake, lambda: Way(loop(40)) + (1,))
        self.assertRaises(CannotMake, lambda: Way(fresh(HALF)) + (1, 1))

    def test_more_in_place(self):
        way = other = Way(fresh(BESIDE))
        third = Way(fresh(BESIDE))
        way += (2, 1)
        self.assertIs(way, other)
        self.assertEqual(other.journey, (read_tree(BESIDE), ((2, 1),)))
        self.assertEqual((other.tree, other.makings), work_of(other.journey))
        self.assertEqual((len(other), other.next, third.journey), (1, (2, 0), fresh(BESIDE)))
        for path, error in (((2, 1), CannotMake), ([2, 0], InvalidPath), ((True,), InvalidPath), (None, InvalidPath)):
            with self.assertRaises(error):
                way += path
            self.assertIs(way, other)
            self.assertEqual(way.journey, (read_tree(BESIDE), ((2, 1),)))
            self.assertEqual((way.tree, way.makings), work_of(way.journey))

    def test_back_and_on(self):
        way = Way(loop(7))
        self.assertEqual(((way << 0).journey, (way << 3).journey, (way << 7).journey), (loop(7), loop(4), loop(0)))
        self.assertEqual(((way >> 0).journey, (way >> 3).journey, (way >> 40).journey), (loop(7), loop(10), loop(40)))
        self.assertEqual((Way(fresh(HALF)) >> 9).journey, (read_tree(HALF), ((1, 0),)))
        self.assertEqual(way.journey, loop(7))
        for many in (-1, 8, True, None, "1", (1,)):
            self.assertRaises(InvalidNumber, lambda told: way << told, many)
        for most in (-1, 41, True, None, "1", (1,)):
            self.assertRaises(InvalidNumber, lambda told: way >> told, most)
        kept = way
        way <<= 2
        self.assertEqual((kept.journey, way.journey), (loop(7), loop(5)))
        way >>= 1
        self.assertEqual(way.journey, loop(6))

    def test_parts(self):
        way = Way((read_tree(BESIDE), ((2, 1),)))
        for path in all_paths(way.tree):
            self.assertEqual(way[path], part_at(way.tree, path))
        self.assertEqual(way[2, 1], way[(2, 1)])
        for path in ((3,), [2], 2, None, (True,), "2", (2, 1, 1, 0), (-1,), slice(1, 2), way):
            self.assertRaises(InvalidPath, lambda told: way[told], path)

    def test_paths_in_it(self):
        way = Way(fresh("(maker m (row () 1) (+ (make m) (+ (make z) (apply (make m 1) (make m)))))"))
        self.assertEqual([path for path in all_paths(way.tree) if path in way], [(1, 0), (1, 1, 1, 1)])
        for value in ODD_VALUES + ([1, 0], (1, False), (1, -2), way, (way,), nested(300)):
            self.assertIs(value in way, False)
        self.assertNotIn((1,), Way(loop(40)))
        self.assertIn((1,), Way(loop(39)))

    def test_truth(self):
        for journey, told in ((fresh("x"), False), (fresh(A), True), ((read_tree(A), ((1, 1, 1),)), False), (fresh("(make m)"), False),
                              ((read_tree(HALF), ((1, 0),)), False), (fresh(HALF), True), (loop(39), True), (loop(40), False)):
            self.assertIs(bool(Way(journey)), told)
            self.assertIs(bool(Bench(journey)), told)

    def test_iteration(self):
        way = Way(fresh(A))
        for call in (iter, list, tuple, sorted):
            self.assertRaises(TypeError, call, way)
        with self.assertRaises(TypeError):
            for _ in way:
                pass

    def test_equality(self):
        way = Way(loop(3))
        self.assertTrue(way == Way(loop(3)))
        self.assertFalse(way != Way(loop(3)))
        self.assertTrue(way == Way(loop(2)) + (1,))
        self.assertFalse(way == Way(loop(2)))
        # Two trees that are alike are not the same.
        self.assertFalse(Way(fresh("(hold x 1 x)")) == Way(fresh("(hold y 1 y)")))
        for other in (loop(3), str(way), None, 3, way.tree, Bench(loop(3)), [way], Anything()):
            self.assertIs(way == other, False)
            self.assertIs(way != other, True)


class Anything:
    """Takes no part in being equal."""

    __hash__ = None


class Point84(unittest.TestCase):
    def bench(self, text=BESIDE, order=()):
        return Bench((read_tree(text), order))

    def states(self, bench):
        return (bench.journey, bench.tree, bench.next, len(bench), bool(bench), list(bench.lines()))

    def test_do(self):
        bench = self.bench()
        self.assertEqual([bench.do(path) for path in ((2, 1), (2, 0), (2, 1, 1))], [1, 2, 3])
        self.assertEqual(bench.journey, (read_tree(BESIDE), ((2, 1), (2, 0), (2, 1, 1))))
        self.assertEqual((bench.tree, bench.next, len(bench), bool(bench)), (work_of(bench.journey)[0], None, 3, False))
        self.assertEqual(self.bench(BESIDE, ((2, 1),)).do((2, 0)), 2)
        self.assertEqual(len(self.bench(BESIDE, ((2, 1),))), 0)

    def test_errors_of_do(self):
        bench = self.bench()
        bench.do((2, 1))
        bench.undo()
        kept = self.states(bench)
        for path, error in (([2, 1], InvalidPath), (None, InvalidPath), ((True,), InvalidPath), ((2,), CannotMake), ((), CannotMake),
                            ((-1,), CannotMake)):
            self.assertRaises(error, bench.do, path)
            self.assertEqual(self.states(bench), kept)
        self.assertRaises(CannotMake, Bench(loop(40)).do, (1,))
        # What raised an error was not done, so what was taken back can still be done again.
        self.assertIsNone(bench.redo())
        self.assertEqual(len(bench), 1)

    def test_orders(self):
        bench = kept = self.bench()
        bench += ((2, 1), (2, 0))
        self.assertIs(bench, kept)
        self.assertEqual((len(bench), bench.journey[1]), (1, ((2, 1), (2, 0))))
        bench += ()
        self.assertEqual((len(bench), bench.journey[1]), (2, ((2, 1), (2, 0))))
        bench.undo()
        self.assertEqual((len(bench), bench.journey[1]), (1, ((2, 1), (2, 0))))
        bench.undo()
        self.assertEqual((len(bench), bench.journey[1]), (0, ()))
        bench.redo()
        self.assertEqual((len(bench), bench.journey[1]), (1, ((2, 1), (2, 0))))
        self.assertEqual((bench.tree, bench.next), (work_of(bench.journey)[0], (2, 1, 1)))

    def test_errors_of_orders(self):
        bench = kept = self.bench()
        bench.do((2, 1))
        bench.undo()
        before = self.states(bench)
        for order, error in ((((2, 1), (2, 1)), CannotMake), (((2, 0), (2, 9)), CannotMake), ([(2, 0)], InvalidOrder), (None, InvalidOrder),
                             (((2, 0), [2]), InvalidOrder), (((2, True),), InvalidOrder), ((2, 0), InvalidOrder), (((2, 0),) * 41, InvalidOrder)):
            with self.assertRaises(error):
                bench += order
            self.assertIs(bench, kept)
            self.assertEqual(self.states(bench), before)
        bench.redo()
        self.assertEqual(bench.journey[1], ((2, 1),))

    def test_undo_and_redo_in_turn(self):
        bench = self.bench()
        seen = [self.states(bench)]
        for path in ((2, 1), (2, 0), (2, 1, 1)):
            bench.do(path)
            seen.append(self.states(bench))
        for at in (2, 1, 0):
            self.assertIsNone(bench.undo())
            self.assertEqual(self.states(bench), seen[at])
        self.assertRaises(NothingToUndo, bench.undo)
        self.assertEqual(self.states(bench), seen[0])
        for at in (1, 2):
            self.assertIsNone(bench.redo())
            self.assertEqual(self.states(bench), seen[at])
        bench.undo()
        bench.redo()
        bench.redo()
        self.assertEqual(self.states(bench), seen[3])
        self.assertRaises(NothingToRedo, bench.redo)
        self.assertEqual(self.states(bench), seen[3])

    def test_do_behind_an_undo(self):
        for more in (lambda bench: bench.do((2, 0)), lambda bench: bench.__iadd__(((2, 0),)), lambda bench: bench.__iadd__(())):
            bench = self.bench()
            bench.do((2, 1))
            bench.undo()
            more(bench)
            self.assertRaises(NothingToRedo, bench.redo)
            self.assertEqual(len(bench), 1)
            bench.undo()
            self.assertEqual(bench.journey[1], ())

    def test_nothing_to_undo_of_what_it_began_with(self):
        bench = self.bench(BESIDE, ((2, 1),))
        self.assertRaises(NothingToUndo, bench.undo)
        self.assertRaises(NothingToRedo, bench.redo)

    def test_attempt(self):
        bench = self.bench()
        self.assertEqual(bench.attempt(lambda one: (one is bench, one.do((2, 1)))), (True, 1))
        self.assertEqual((len(bench), bench.journey[1]), (1, ((2, 1),)))
        self.assertIsNone(bench.attempt(lambda one: None))
        self.assertEqual(bench.attempt(len), 1)

    def test_attempt_that_ends_with_an_error(self):
        for error in (ValueError, KeyError, CannotMake, KeyboardInterrupt, StopIteration, GeneratorExit):
            bench = self.bench()
            bench += ((2, 1),)
            bench.do((2, 0))
            bench.undo()
            before = self.states(bench)

            def action(one):
                one.undo()
                one.do((2, 0))
                one.undo()
                one += ((2, 0), (2, 1))
                raise error("x")
            self.assertRaises(error, bench.attempt, action)
            self.assertEqual(self.states(bench), before)
            bench.redo()
            self.assertEqual(bench.journey[1], ((2, 1), (2, 0)))
            bench.undo()
            bench.undo()
            self.assertRaises(NothingToUndo, bench.undo)
            self.assertEqual(bench.journey[1], ())

    def test_own_errors_in_an_attempt(self):
        bench = self.bench()
        self.assertRaises(CannotMake, bench.attempt, lambda one: (one.do((2, 1)), one.do((2, 1))))
        self.assertEqual((len(bench), bench.journey[1]), (0, ()))
        self.assertRaises(NothingToRedo, bench.redo)
        self.assertRaises(NothingToUndo, bench.attempt, lambda one: (one.do((2, 1)), one.undo(), one.undo()))
        self.assertRaises(NothingToRedo, bench.redo)
        self.assertRaises(TypeError, bench.attempt, None)

    def test_attempts_within_one_another(self):
        bench = self.bench()

        def inner(one):
            one.do((2, 0))
            raise KeyError("inner")

        def outer(one):
            one.do((2, 1))
            self.assertRaises(KeyError, one.attempt, inner)
            self.assertEqual(one.journey[1], ((2, 1),))
            one.do((2, 1, 1))
            return "told"
        self.assertEqual(bench.attempt(outer), "told")
        self.assertEqual((len(bench), bench.journey[1]), (2, ((2, 1), (2, 1, 1))))

        def failing(one):
            one.undo()
            one.attempt(lambda two: two.do((2, 0)))
            raise KeyError("outer")
        self.assertRaises(KeyError, bench.attempt, failing)
        self.assertEqual((len(bench), bench.journey[1]), (2, ((2, 1), (2, 1, 1))))
        self.assertRaises(NothingToRedo, bench.redo)

    def test_equality(self):
        bench = self.bench()
        bench.do((2, 1))
        self.assertTrue(bench == self.bench(BESIDE, ((2, 1),)))
        self.assertFalse(bench != self.bench(BESIDE, ((2, 1),)))
        self.assertFalse(bench == self.bench())
        for other in (bench.journey, Way(bench.journey), None, 1, "bench", Anything()):
            self.assertIs(bench == other, False)
            self.assertIs(bench != other, True)

    def test_lines(self):
        bench = self.bench()
        self.assertTrue(inspect.isgenerator(bench.lines()))
        self.assertEqual(list(bench.lines()), [])
        bench += ((2, 1), (2, 0), (2, 1, 1))
        self.assertEqual(list(bench.lines()), ["2 1 m", "2 0 m", "2 1 1 m"])
        self.assertEqual(list(Bench((read_tree(A), ((1, 1, 1),))).lines()), ["1 1 1 m"])
        # The name may have marks, its word stands alone.
        self.assertEqual(list(Bench(loop(3)).lines()), ["1 m"] * 3)

    def test_benches_and_ways_of_grown_journeys(self):
        for journey in grown_journeys(40, 1):
            bench, way = Bench((journey[0], ())), Way((journey[0], ()))
            for number, path in enumerate(journey[1]):
                self.assertIn(path, way)
                way = way + path
                self.assertEqual(bench.do(path), number + 1)
                self.assertEqual((bench.journey, bench.tree, bench.next), (way.journey, way.tree, way.next))
            self.assertEqual([line.rpartition(" ")[0] for line in bench.lines()], str(way).split("\n")[1:])
            words = [part_at(work[0], path)[1][0] for work, path in zip(works_of(journey), journey[1])]
            self.assertEqual([line.rpartition(" ")[2] for line in bench.lines()], words)


if __name__ == "__main__":
    unittest.main()
