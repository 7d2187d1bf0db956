"""Point [85], and of point [2] that errors are told from left to right."""

import unittest

from namesapart import errors
from tests.growing import A, ODD_VALUES, nested, read_tree

PLAIN_ERRORS = """InvalidTree InvalidText InvalidWork InvalidPath InvalidName InvalidOrder InvalidProgram InvalidNumber
    InvalidLotted InvalidLotWork InvalidManner InvalidPattern InvalidRow InvalidRows InvalidPieces NotTaken InvalidWord
    InvalidStaged InvalidTable InvalidShelf InvalidModule InvalidPlaceOrder InvalidCode InvalidStep InvalidStore
    InvalidDeed InvalidDeeds InvalidWords InvalidLot InvalidJourney InvalidStops CannotMake NothingToUndo
    NothingToRedo""".split()
TREE = read_tree(A)
BAD = ("amount", "1")


class Point85(unittest.TestCase):
    def test_base(self):
        self.assertEqual(errors.ApartError.__bases__, (ValueError,))

    def test_direct_subclasses(self):
        for name in PLAIN_ERRORS + ["Hindered", "TooMany"]:
            self.assertEqual(getattr(errors, name).__bases__, (errors.ApartError,), name)

    def test_there_are_no_others(self):
        found = {name for name, thing in vars(errors).items() if isinstance(thing, type)}
        self.assertEqual(found, set(PLAIN_ERRORS) | {"ApartError", "Hindered", "TooMany"})

    def test_messages(self):
        for name in PLAIN_ERRORS:
            self.assertEqual(str(getattr(errors, name)("a message")), "a message")

    def test_what_and_limit(self):
        self.assertEqual(errors.Hindered(("lack", "u", "v")).what, ("lack", "u", "v"))
        self.assertEqual(errors.TooMany(4).limit, 4)

    def test_defined_there(self):
        for name in PLAIN_ERRORS + ["ApartError", "Hindered", "TooMany"]:
            self.assertEqual(getattr(errors, name).__module__, "namesapart.errors")


class ErrorCase(unittest.TestCase):
    """Each function is called with good arguments, one or two of which are made bad."""

    def check_errors(self, function, good, raised):
        """Each argument that can be wrong, alone and with all behind it, raises its error, also for odd values."""
        function(*good)
        for at, error in enumerate(raised):
            if error is None:
                continue
            for value in ODD_VALUES + (nested(300), good[at] if not isinstance(good[at], tuple) else list(good[at])):
                if self.is_good(function, good, at, value):
                    continue
                alone = good[:at] + (value,) + good[at + 1:]
                with self.assertRaises(getattr(errors, error), msg=f"{function.__name__}{alone!r:.200}"):
                    function(*alone)
            behind = good[:at] + (BAD,) * (len(good) - at)
            with self.assertRaises(getattr(errors, error), msg=f"{function.__name__}{behind!r:.200}"):
                function(*behind)

    def is_good(self, function, good, at, value):
        return (function.__name__, at, repr(value)) in GOOD_VALUES or (value is good[at])


# Odd values that are no errors at these places.
GOOD_VALUES = {(name, at, repr(value)) for names, at, values in (
    (("part_at", "binder_of", "mean_same", "lot_meaning"), 1, [(), (1,)]),
    (("mean_same",), 3, [(), (1,)]),
    (("made_by", "making_end"), 1, [(), ((), (), ())]),
    (("made_by_lots", "lot_end"), 2, [(), ((), (), ())]),
    (("run_of", "shown_by", "unrolled", "lost_paper", "pieces_for"), 1, [0, 1]),
    (("is_lost_paper",), 1, [0, 1]),
    (("piece_numbers", "taken_by", "refused_at", "is_wider"), 0, [(), (("amount", 1),)]),
    (("is_wider", "taken_by", "refused_at", "row_taking"), 1, [(), (("amount", 1),)]),
    (("narrowed",), 1, [(1,)]),
    (("shown_carelessly", "run_staged", "shown_stages", "run_code", "shown_by_code"), 1, [0, 1]),
    (("made_with",), 2, [0, 1]),
    (("made_with",), 1, [()]),
    (("places_of", "renamed_binder", "keeps_meanings", "first_word"), 1, [(), (1,)]),
    (("renamed_binder", "keeps_meanings"), 2, ["a"]),
    (("is_simple", "sites_of", "is_harmless", "harm_tree", "is_harm_tree"), 0, []),
    (("seen_words",), 3, [0, 1]),
    (("worked_out", "deed_done", "train_done", "are_apart_in", "shown_late", "shown_early", "unlike_tree"), 0,
     [(), (("amount", 1),)]),
    (("train_done", "shown_late", "shown_early", "unlike_tree"), 1, [()]),
    (("shown_early", "unlike_tree"), 2, [0, 1]),
    (("shown_early", "unlike_tree"), 3, [(), ("amount",), ("use", "x")]),
    (("exchanged_orders", "are_exchanged"), 0, [()]),
    (("are_exchanged",), 1, [()]),
    (("unlike_store", "early_paper"), 2, [0, 1]),
    (("early_steps", "early_done", "is_early_paper", "early_paper"), 1, [(), (("amount", 1),)]),
    (("with_library", "meant_plainly", "makings_told", "shown_directly"), 0, [()]),
    (("shown_directly",), 2, [0, 1]),
    (("made_further",), 1, [(), ((), (), ())]),
    (("taken_back", "parts_from"), 1, [0, 1]),
    (("origin_of", "trail_of"), 1, [(), (1,)]),
    (("stops_at", "led_to_stop"), 1, [()]),
    (("led_to_stop",), 2, [0, 1]),
) for name in names for value in values}


class Point2(ErrorCase):
    def test_trees(self):
        from namesapart import trees
        for word in ("tree_size", "tree_depth", "parts_of", "all_paths", "words_in"):
            self.check_errors(getattr(trees, word), (TREE,), ("InvalidTree",))
        self.check_errors(trees.part_at, (TREE, (0,)), ("InvalidTree", "InvalidPath"))

    def test_texts(self):
        from namesapart import texts
        self.check_errors(texts.tree_text, (TREE,), ("InvalidTree",))
        for value in ODD_VALUES + (nested(300), ["(+ 1 2)"]):
            if not isinstance(value, str):
                self.assertRaises(errors.InvalidText, texts.read_tree, value)

    def test_meanings(self):
        from namesapart import meanings
        work, name = (TREE, ()), ("x", ())
        self.check_errors(meanings.fresh_work, (TREE,), ("InvalidTree",))
        self.check_errors(meanings.free_words, (work,), ("InvalidWork",))
        self.check_errors(meanings.binder_of, (work, (0,), name), ("InvalidWork", "InvalidPath", "InvalidName"))
        self.check_errors(meanings.mean_same, (work, (0,), name, (0,), name),
                          ("InvalidWork", "InvalidPath", "InvalidName", "InvalidPath", "InvalidName"))

    def test_makings(self):
        from namesapart import makings
        work = (TREE, ())
        self.check_errors(makings.outermost_uses, (work,), ("InvalidWork",))
        self.check_errors(makings.row_for, (work, (1, 1, 1)), ("InvalidWork", "InvalidPath"))
        self.check_errors(makings.made_once, (work, (1, 1, 1)), ("InvalidWork", "InvalidPath"))
        self.check_errors(makings.made_by, (work, ((1, 1, 1),)), ("InvalidWork", "InvalidOrder"))

    def test_plain(self):
        from namesapart import plain
        made = (read_tree("(hold x 1 x)"), ())
        self.check_errors(plain.is_made, (made,), ("InvalidWork",))
        self.check_errors(plain.plain_tree, (made,), ("InvalidWork",))
        self.check_errors(plain.with_plain_names, (made[0],), ("InvalidTree",))
        self.check_errors(plain.are_alike, (made[0], made[0]), ("InvalidTree", "InvalidTree"))

    def test_running(self):
        from namesapart import running
        program = read_tree("(hold x 1 x)")
        self.check_errors(running.step_of, (program,), ("InvalidTree",))
        self.check_errors(running.run_of, (program, 9), ("InvalidTree", "InvalidNumber"))
        self.check_errors(running.shown_by, (TREE, 9), ("InvalidTree", "InvalidNumber"))
        free = read_tree("(+ x 1)")
        self.assertRaises(errors.InvalidProgram, running.step_of, free)
        self.assertRaises(errors.InvalidProgram, running.run_of, free, -1)
        self.assertRaises(errors.InvalidProgram, running.step_of, TREE)

    def test_lots(self):
        from namesapart import lots
        self.check_errors(lots.lots_off, (TREE,), ("InvalidLotted",))
        self.check_errors(lots.lot_meaning, (TREE, (0,), ("x", ())), ("InvalidLotted", "InvalidPath", "InvalidName"))

    def test_lotworks(self):
        from namesapart import lotworks
        manner = (True, True, True)
        work = lotworks.begun_lots(TREE, manner)
        self.check_errors(lotworks.begun_lots, (TREE, manner), ("InvalidTree", "InvalidManner"))
        self.check_errors(lotworks.lot_row, (work, (1, 1, 1)), ("InvalidLotWork", "InvalidPath"))
        self.check_errors(lotworks.lot_once, (work, (1, 1, 1)), ("InvalidLotWork", "InvalidPath"))
        self.check_errors(lotworks.made_by_lots, (TREE, manner, ()), ("InvalidTree", "InvalidManner", "InvalidOrder"))

    def test_lotplain(self):
        from namesapart import lotplain
        manner = (True, True, True)
        self.check_errors(lotplain.lot_end, (TREE, manner, ()), ("InvalidTree", "InvalidManner", "InvalidOrder"))
        self.check_errors(lotplain.making_end, (TREE, ()), ("InvalidTree", "InvalidOrder"))
        self.check_errors(lotplain.agreeing_manners, (TREE,), ("InvalidTree",))

    def test_marks_where_names_must_be_bare(self):
        from namesapart import lotplain, lotworks, plain
        marked = read_tree("(hold x@1 1 x)")
        inner = read_tree("(maker m (row (word:x@1) 1) 2)")
        manner = (True, True, True)
        for tree in (marked, inner):
            self.assertRaises(errors.InvalidTree, lotworks.begun_lots, tree, ())
            self.assertRaises(errors.InvalidTree, lotworks.made_by_lots, tree, manner, ())
            self.assertRaises(errors.InvalidTree, lotplain.lot_end, tree, manner, ())
            self.assertRaises(errors.InvalidTree, lotplain.making_end, tree, ())
            self.assertRaises(errors.InvalidTree, lotplain.agreeing_manners, tree)
        for tree in (marked, read_tree("(maker m (row () 1) 2)"), read_tree("(make m)")):
            self.assertRaises(errors.InvalidTree, plain.with_plain_names, tree)
            self.assertRaises(errors.InvalidTree, plain.are_alike, tree, ("amount", 1))
            self.assertRaises(errors.InvalidTree, plain.are_alike, ("amount", 1), tree)

    def test_widerows(self):
        from namesapart import lostrows, widemakings, widerows
        pattern = (("any", "a"), ("each", (("any", "b"),)))
        row = (pattern, ("fill", "a"))
        pieces = (("amount", 1), ("amount", 2))
        self.check_errors(widerows.piece_numbers, (pattern,), ("InvalidPattern",))
        self.check_errors(widerows.taken_by, (pattern, pieces), ("InvalidPattern", "InvalidPieces"))
        self.check_errors(widerows.refused_at, (pattern, pieces), ("InvalidPattern", "InvalidPieces"))
        self.check_errors(widemakings.filled_by, (row, pieces), ("InvalidRow", None))
        self.check_errors(widemakings.unrolled, (row, 1), ("InvalidRow", "InvalidNumber"))
        self.check_errors(widemakings.narrowed, ((row,), (1, 2)), ("InvalidRows", "InvalidNumber"))
        self.check_errors(lostrows.is_wider, (pattern, pattern), ("InvalidPattern", "InvalidPattern"))
        self.check_errors(lostrows.row_taking, ((row,), pieces), ("InvalidRows", "InvalidPieces"))
        self.check_errors(lostrows.lost_rows, ((row,),), ("InvalidRows",))
        self.check_errors(lostrows.pieces_for, ((row, row), 1), ("InvalidRows", "InvalidNumber"))
        self.check_errors(lostrows.lost_paper, ((row, row), 1), ("InvalidRows", "InvalidNumber"))
        self.check_errors(lostrows.is_lost_paper, ((row, row), 1, ()), ("InvalidRows", "InvalidNumber", None))

    def test_pieces_that_are_no_pieces(self):
        from namesapart import widemakings
        row = ((("any", "a"),), ("fill", "a"))
        for value in (1, [("amount", 1)], (1,), (("fill", "a"),), (("amount", 1),) * 7):
            self.assertRaises(errors.InvalidPieces, widemakings.filled_by, row, value)
        self.assertRaises(errors.NotTaken, widemakings.filled_by, row, ())

    def test_careless_renaming_and_harmless(self):
        from namesapart import careless, harmless, renaming
        work, row = (TREE, ()), ((("name", "n"),), ("given", ("fill", "n"), ("use", ("x", ()))))
        self.check_errors(careless.bare_tree, (work,), ("InvalidWork",))
        self.check_errors(careless.caught_names, (work,), ("InvalidWork",))
        self.check_errors(careless.made_carelessly, (TREE,), ("InvalidTree",))
        self.check_errors(careless.shown_carelessly, (TREE, 9), ("InvalidTree", "InvalidNumber"))
        self.check_errors(renaming.places_of, (TREE, (1,)), ("InvalidTree", "InvalidPath"))
        self.check_errors(renaming.renamed_binder, (TREE, (1, 1), "y"), ("InvalidTree", "InvalidPath", "InvalidWord"))
        self.check_errors(renaming.keeps_meanings, (TREE, (1, 1), "y"), ("InvalidTree", "InvalidPath", "InvalidWord"))
        self.check_errors(renaming.first_word, (TREE, (1, 1)), ("InvalidTree", "InvalidPath"))
        for function in (harmless.is_simple, harmless.sites_of, harmless.is_harmless, harmless.harm_tree):
            self.check_errors(function, (row,), ("InvalidRow",))
        self.check_errors(harmless.is_harm_tree, (row, TREE), ("InvalidRow", None))

    def test_staged(self):
        from namesapart import codemakers, stageruns, stagetrees
        staged = ("code", ("given", "x", ("use", "x")))
        for function in (stagetrees.stages_in, stagetrees.stage_faults, stagetrees.is_calm, stagetrees.erased_tree):
            self.check_errors(function, (staged,), ("InvalidStaged",))
        self.check_errors(stagetrees.staged_of, (read_tree("(given x x)"),), ("InvalidTree",))
        self.check_errors(stageruns.run_staged, (staged, 9), ("InvalidStaged", "InvalidNumber"))
        self.check_errors(stageruns.shown_stages, (staged, 9), ("InvalidStaged", "InvalidNumber"))
        self.check_errors(codemakers.made_with, (read_tree("(make one)"), (("one", staged),), 9),
                          ("InvalidTree", "InvalidTable", "InvalidNumber"))

    def test_modules(self):
        from namesapart import modulelinks, moduleorders, modules, moduleshows
        shelf = (("p", (), (), (), ()), ("q", (("p", 1, ()),), (), (), ()))
        order = (("p", 1), ("q", 0))
        for function in (modules.hindrance, moduleorders.places_needed, moduleorders.first_order, moduleorders.place_orders,
                         moduleshows.clash_in, moduleshows.unlike_orders):
            self.check_errors(function, (shelf, "q"), ("InvalidShelf", "InvalidModule"))
        self.check_errors(moduleorders.is_place_order, (shelf, "q", order), ("InvalidShelf", "InvalidModule", None))
        self.check_errors(moduleshows.order_shown, (shelf, "q", order), ("InvalidShelf", "InvalidModule", "InvalidPlaceOrder"))
        self.check_errors(modulelinks.seen_words, (shelf, "q", "p", 2), ("InvalidShelf", "InvalidModule", "InvalidModule", "InvalidNumber"))
        self.check_errors(modulelinks.linked_tree, (shelf, "q", TREE), ("InvalidShelf", "InvalidModule", "InvalidTree"))

    def test_codes(self):
        from namesapart import betterplaces, placecodes, placeruns
        program = read_tree("(apply (given x (+ x 1)) 5)")
        code = placecodes.code_of(program)
        self.check_errors(placecodes.code_of, (program,), ("InvalidTree",))
        for function in (placecodes.count_lines, placecodes.live_places, betterplaces.better_steps, betterplaces.best_code):
            self.check_errors(function, (code,), ("InvalidCode",))
        self.check_errors(placeruns.run_code, (code, 9), ("InvalidCode", "InvalidNumber"))
        self.check_errors(placeruns.shown_by_code, (TREE, 9), ("InvalidTree", "InvalidNumber"))
        self.check_errors(betterplaces.bettered, (code, ("put", 0, (2,))), ("InvalidCode", "InvalidStep"))
        self.check_errors(betterplaces.is_bettering, (code, code, ()), ("InvalidCode", "InvalidCode", None))

    def test_deeds(self):
        from namesapart import deeds, early, exchanges, late
        store, tree = (("x", 3),), read_tree("(+ x 1)")
        deed, three = ("x", tree), ("InvalidStore", "InvalidDeeds", "InvalidNumber", "InvalidWords", "InvalidTree")
        self.check_errors(deeds.worked_out, (store, tree), ("InvalidStore", "InvalidTree"))
        self.check_errors(deeds.deed_done, (store, deed), ("InvalidStore", "InvalidDeed"))
        self.check_errors(deeds.train_done, (store, (deed,)), ("InvalidStore", "InvalidDeeds"))
        self.check_errors(exchanges.words_asked, (deed,), ("InvalidDeed",))
        self.check_errors(exchanges.are_apart, (deed, deed), ("InvalidDeed", "InvalidDeed"))
        self.check_errors(exchanges.are_apart_in, (store, deed, deed), ("InvalidStore", "InvalidDeed", "InvalidDeed"))
        self.check_errors(exchanges.exchanged_orders, ((deed,),), ("InvalidDeeds",))
        self.check_errors(exchanges.are_exchanged, ((deed,), (deed,)), ("InvalidDeeds", "InvalidDeeds"))
        self.check_errors(exchanges.unlike_store, (deed, deed, 2), ("InvalidDeed", "InvalidDeed", "InvalidNumber"))
        self.check_errors(early.early_steps, (tree, store), ("InvalidTree", "InvalidStore"))
        self.check_errors(early.early_done, (tree, store, ("known", (0,))), ("InvalidTree", "InvalidStore", "InvalidStep"))
        self.check_errors(early.is_early_paper, (tree, store, ()), ("InvalidTree", "InvalidStore", None))
        self.check_errors(early.early_paper, (tree, store, 9), ("InvalidTree", "InvalidStore", "InvalidNumber"))
        self.check_errors(late.shown_late, (store, (deed,), tree), ("InvalidStore", "InvalidDeeds", "InvalidTree"))
        self.check_errors(late.shown_early, (store, (deed,), 1, ("x",), tree), three)
        self.check_errors(late.unlike_tree, (store, (deed,), 1, ("x",)), three[:-1])

    def test_clients(self):
        from namesapart import directly, library, plainuses
        lot, client = ("nay",), read_tree("(make nay 1)")
        for function in (library.library_rows, library.brought_by):
            self.check_errors(function, ("nay",), ("InvalidWord",))
        for function in (library.with_library, plainuses.meant_plainly, plainuses.makings_told):
            self.check_errors(function, (lot, client), ("InvalidLot", "InvalidTree"))
        self.check_errors(directly.shown_directly, (lot, client, 9), ("InvalidLot", "InvalidTree", "InvalidNumber"))

    def test_journeys(self):
        from namesapart import lifejourneys, lifeorigins, lifestops, lifetexts
        journey = (TREE, ((1, 1, 1),))
        for function in (lifejourneys.work_of, lifejourneys.works_of, lifejourneys.next_use, lifetexts.journey_text):
            self.check_errors(function, (journey,), ("InvalidJourney",))
        self.check_errors(lifejourneys.made_further, ((TREE, ()), ((1, 1, 1),)), ("InvalidJourney", "InvalidOrder"))
        self.check_errors(lifejourneys.taken_back, (journey, 1), ("InvalidJourney", "InvalidNumber"))
        for function in (lifeorigins.origin_of, lifeorigins.trail_of):
            self.check_errors(function, (journey, (0,)), ("InvalidJourney", "InvalidPath"))
        self.check_errors(lifeorigins.parts_from, (journey, 1), ("InvalidJourney", "InvalidNumber"))
        self.check_errors(lifestops.stops_at, (journey, (("end",),)), ("InvalidJourney", "InvalidStops"))
        self.check_errors(lifestops.led_to_stop, (journey, (("end",),), 9), ("InvalidJourney", "InvalidStops", "InvalidNumber"))
        for value in ODD_VALUES + (nested(300), ["1"], A + "\n", "x\n0"):
            if value not in ("a", "(+ 1 2)"):
                self.assertRaises(errors.InvalidJourney, lifetexts.read_journey, value)

    def test_predicates_take_any_value(self):
        from namesapart import codemakers, deeds, lifejourneys, lifestops, lots, lotworks, meanings, modules, placecodes
        from namesapart import running, stagetrees, trees, widerows
        from namesapart.lifebenches import Bench
        from namesapart.lifevalues import Way
        way, bench = Way((TREE, ())), Bench((TREE, ()))
        empty = (widerows.is_wide_pattern, codemakers.is_table, deeds.is_store)
        for asked in (trees.is_tree, trees.is_plain, meanings.is_work, running.is_program, lots.is_lotted,
                      lotworks.is_lot_work, widerows.is_wide_pattern, widerows.is_wide_row, codemakers.is_table,
                      stagetrees.is_staged, modules.is_module, modules.is_shelf, placecodes.is_code, deeds.is_store,
                      deeds.is_open, deeds.is_deed, lifejourneys.is_journey, lifestops.is_stop):
            for value in ODD_VALUES + (nested(300), [nested(299)], errors.ApartError("x"), ((),) * 1000, way, bench,
                                       (way, bench), (way,), ("amount", way), ("use", (bench, ())), ((way, 1),),
                                       (TREE, (way,)), (TREE, ((way,),)), ("size", bench), ("x", way)):
                expected = asked in empty and isinstance(value, tuple) and len(value) == 0
                expected = expected or asked in (empty[0], empty[2]) and repr(value) == "(('amount', 1),)"
                self.assertIs(asked(value), expected, f"{asked.__name__}({value!r:.100})")

    def test_objects_are_wrong_arguments_as_others_are(self):
        from namesapart.lifebenches import Bench
        from namesapart.lifevalues import Way
        from namesapart import betterplaces, deeds, early, library, lifejourneys, lostrows, placecodes, texts, trees
        code = placecodes.code_of(read_tree("(+ 1 1)"))
        row = ((("any", "a"),), ("fill", "a"))
        for thing in (Way((TREE, ())), Bench((TREE, ()))):
            for value in (thing, (thing,), (thing, thing), (thing, thing, thing)):
                self.assertRaises(errors.InvalidTree, trees.tree_size, value)
                self.assertRaises(errors.InvalidText, texts.read_tree, value)
                self.assertRaises(errors.InvalidPath, trees.part_at, TREE, value)
                self.assertRaises(errors.InvalidStep, betterplaces.bettered, code, value)
                self.assertRaises(errors.InvalidStep, early.early_done, read_tree("x"), (), value)
                self.assertRaises(errors.InvalidDeeds, deeds.train_done, (), value)
                self.assertRaises(errors.InvalidWord, library.library_rows, value)
                self.assertRaises(errors.InvalidLot, library.with_library, value, read_tree("1"))
                self.assertRaises(errors.InvalidJourney, lifejourneys.work_of, value)
                self.assertRaises(errors.InvalidOrder, lifejourneys.made_further, (TREE, ()), value)
                self.assertIs(early.is_early_paper(read_tree("x"), (), value), False)
                self.assertIs(betterplaces.is_bettering(code, code, value), False)
                self.assertIs(lostrows.is_lost_paper((row, row), 1, value), False)

    def test_lists_are_new(self):
        from namesapart import betterplaces, careless, exchanges, harmless, library, lifejourneys, lotplain, lostrows, makings
        from namesapart import meanings, placecodes, stagetrees, trees, widerows
        deed = ("x", read_tree("(+ x 1)"))
        work = (TREE, ())
        pattern = (("any", "a"),)
        rows = ((pattern, ("amount", 1)), (pattern, ("amount", 1)))
        for function, given in ((trees.parts_of, TREE), (trees.all_paths, TREE), (trees.words_in, TREE),
                                (meanings.free_words, (read_tree("x"), ())), (makings.outermost_uses, work),
                                (lotplain.agreeing_manners, TREE), (widerows.piece_numbers, pattern),
                                (lostrows.lost_rows, rows), (careless.caught_names, work), (harmless.sites_of, ((), ("use", ("x", ())))),
                                (stagetrees.stages_in, ("code", ("amount", 1))), (stagetrees.stage_faults, ("amount", 1)),
                                (betterplaces.better_steps, placecodes.code_of(read_tree("(+ 1 1)"))),
                                (exchanges.words_asked, deed), (exchanges.exchanged_orders, (deed,)),
                                (library.brought_by, "sum"), (lifejourneys.works_of, (TREE, ((1, 1, 1),)))):
            first = function(given)
            kept = list(first)
            self.assertIs(type(first), list)
            first.append("changed")
            self.assertEqual(function(given), kept)


if __name__ == "__main__":
    unittest.main()
