"""Points [37] to [42]: runs that can stand awry, lots of them, full shelves, what lies in both, and faces."""

import itertools
import random
import unittest

from runturns import errors, lots as module
from runturns.lots import barred_by, clash, coming_runs, either, faces, filled, is_clash, is_filled, is_full, is_lot
from runturns.lots import joined_with_faces, met, shelf_of, turnable_runs, turned_over
from runturns.shelves import Shelf
from tests.calls import Names, RightCalls, TwoShelves
from tests.helpers import ABC, Arguments, WrongArguments, any_objects, check_error, is_one_of, is_shelf, same
from tests.slow import are_turns_of, class_of, classes_to_four, drawn_of_small_class, many_shelves, overlap_as_sets
from tests.slow import row_key, shelves_of_twelve, shelves_to_four, slow_around, slow_awry, slow_runs, slow_sign
from tests.slow import slow_turned

HOME, LEFT, RIGHT, CAB = [Shelf(ABC, list(row)) for row in ("abc", "bac", "acb", "cab")]
ABCD, ONE = ["a", "b", "c", "d"], Shelf(["z"], ["z"])
WILD, DLIW, PLAIN = Shelf(ABCD, ["b", "d", "a", "c"]), Shelf(ABCD, ["c", "a", "d", "b"]), Shelf(ABCD, ABCD)
AB, BC, ALL = ("a", "b"), ("b", "c"), ("a", "b", "c")
UPS, DOWNS = {"a": "+", "b": "+", "c": "+"}, {"a": "+", "b": "+", "c": "-"}
INTERFACE = {
    "turnable_runs": ["shelf"], "is_lot": ["shelf", "value"], "shelf_of": ["shelf", "lot"], "clash": ["shelf", "runs"],
    "is_clash": ["shelf", "runs", "value"], "coming_runs": ["shelf"], "is_full": ["shelf"], "filled": ["shelf"],
    "is_filled": ["shelf", "value"], "met": ["one", "other"], "either": ["one", "other"],
    "barred_by": ["shelf", "run"], "faces": ["shelf"], "turned_over": ["shelf", "turns"],
    "joined_with_faces": ["one", "up", "other", "more"]}


def are_turnable_of_abc(value):
    if type(value) is not list or not all(is_one_of([AB, BC, ALL])(run) for run in value):
        return False
    return value == sorted(set(value))


def is_lot_of_abc(value):
    return are_turnable_of_abc(value) and not (AB in value and BC in value)


def are_faces_of_abc(value):
    if type(value) is not dict or not same(sorted(map(repr, value)), ["'a'", "'b'", "'c'"]):
        return False
    return all(type(face) is str and face in ("+", "-") for face in value.values())


SHELF = (CAB, errors.InvalidShelf, is_shelf)
VALUE = (("a", "b"), None, None)
RUNS = ([AB, BC], errors.InvalidLot, are_turnable_of_abc)
FACES = (UPS, errors.InvalidFaces, are_faces_of_abc)


class WrongInputs(WrongArguments, Names, unittest.TestCase):
    module = module
    interface = INTERFACE
    told = [
        Arguments(turnable_runs, SHELF), Arguments(is_lot, SHELF, VALUE),
        Arguments(shelf_of, SHELF, ([AB], errors.InvalidLot, is_lot_of_abc)), Arguments(clash, SHELF, RUNS),
        Arguments(is_clash, SHELF, RUNS, VALUE), Arguments(coming_runs, SHELF), Arguments(is_full, SHELF),
        Arguments(filled, SHELF), Arguments(is_filled, SHELF, VALUE), Arguments(met, SHELF, SHELF),
        Arguments(either, SHELF, SHELF),
        Arguments(barred_by, SHELF, (AB, errors.InvalidRun, is_one_of([AB, BC, ALL]))), Arguments(faces, SHELF),
        Arguments(turned_over, SHELF, ([AB], errors.InvalidTurns, are_turns_of(CAB))),
        Arguments(joined_with_faces, SHELF, FACES, SHELF, FACES, order=[0, 2, 1, 3])]

    def test_lots_that_are_none(self):
        wrong = [[BC, AB], [AB, AB], [AB, ("b", "a")], [("a",)], [("a", "c")], (AB,), [AB, None], [["a", "b"]], "ab",
                 {AB: 1}, [("a", "b", "c", "d")], None]
        for lot in wrong:
            self.assertIs(is_lot(CAB, lot), False)
            for function in (shelf_of, clash):
                check_error(self, function, [CAB, lot], errors.InvalidLot, lot)
            check_error(self, is_clash, [CAB, lot, None], errors.InvalidLot, lot)
        lot = [AB, BC]
        check_error(self, shelf_of, [CAB, lot], errors.InvalidLot, lot)
        lot = [("a", "b")]
        check_error(self, shelf_of, [WILD, lot], errors.InvalidLot, lot)

    def test_runs_that_are_not_turnable(self):
        for shelf, wrong in ((WILD, AB), (WILD, ("b", "d")), (ONE, ("z",)), (HOME, ("a", "c")), (HOME, ("b", "a")),
                             (HOME, ["a", "b"]), (HOME, ("a",)), (HOME, ())):
            check_error(self, barred_by, [shelf, wrong], errors.InvalidRun, wrong)

    def test_turns_that_are_none(self):
        for wrong in ([BC], [ALL, BC], [AB, ("a", "c")], (AB,), [AB, None], [["a", "b"]], {AB: 1}, AB, None, [()]):
            check_error(self, turned_over, [CAB, wrong], errors.InvalidTurns, wrong)

    def test_faces_that_are_none(self):
        for wrong in ({"a": "+", "b": "+"}, {"a": "+", "b": "+", "c": "-", "d": "-"}, {"a": "+", "b": "+", "d": "-"},
                      {"a": "+", "b": "+", "c": ""}, {"a": "+", "b": "+", "c": "+-"}, ["+", "+", "+"], {}):
            for other in (HOME, CAB):
                check_error(self, joined_with_faces, [HOME, wrong, other, UPS], errors.InvalidFaces, wrong)
                check_error(self, joined_with_faces, [HOME, UPS, other, wrong], errors.InvalidFaces, wrong)
                check_error(self, joined_with_faces, [HOME, wrong, other, dict(wrong=1)], errors.InvalidFaces, wrong)

    def test_faces_of_shelves_that_are_not_joined(self):
        ups = dict.fromkeys(ABCD, "+")
        self.assertIs(joined_with_faces(WILD, ups, PLAIN, ups), False)
        wrong = {"a": "+"}
        check_error(self, joined_with_faces, [WILD, wrong, PLAIN, ups], errors.InvalidFaces, wrong)
        check_error(self, joined_with_faces, [WILD, ups, PLAIN, wrong], errors.InvalidFaces, wrong)


class Calls(RightCalls, unittest.TestCase):
    calls = [(function, [shelf]) for function in (turnable_runs, coming_runs, is_full, filled, faces)
             for shelf in (CAB, LEFT, WILD, DLIW, PLAIN, ONE)]
    calls += [(is_lot, [CAB, [AB, ALL]]), (is_lot, [CAB, [AB, BC]]), (is_lot, [CAB, []]), (is_lot, [CAB, {"a": [1]}]),
              (shelf_of, [CAB, [BC]]), (shelf_of, [CAB, []]), (shelf_of, [ONE, []]), (clash, [CAB, [AB, ALL, BC]]),
              (clash, [CAB, []]), (is_clash, [CAB, [AB, BC], (AB, BC)]), (is_clash, [CAB, [AB, BC], [AB, BC]]),
              (is_filled, [LEFT, CAB]), (is_filled, [LEFT, [CAB]]), (met, [LEFT, CAB]), (met, [WILD, DLIW]),
              (either, [LEFT, CAB]), (either, [LEFT, RIGHT]), (barred_by, [LEFT, BC]), (turned_over, [CAB, [AB, ALL]]),
              (turned_over, [ONE, []]), (joined_with_faces, [CAB, DOWNS, HOME, UPS]),
              (joined_with_faces, [CAB, UPS, HOME, UPS])]


FOUR_UPS = dict.fromkeys(ABCD, "+")


class Two(TwoShelves, unittest.TestCase):
    unlike, apart = Shelf(["a", "b", "c", "e"], ["a", "b", "c", "e"]), WILD
    pairs = [(met, [PLAIN, PLAIN], 1, [], []), (either, [PLAIN, PLAIN], 1, [], []),
             (joined_with_faces, [PLAIN, FOUR_UPS, PLAIN, FOUR_UPS], 2, [1, 3], None)]


def classes():
    """Each class of the small catalogues, and some of drawn shelves."""
    drawn = drawn_of_small_class(5, (5, 6, 7, 10), 10, 30) + drawn_of_small_class(4, (12,), 30, 30)
    return classes_to_four() + [class_of(shelf) for shelf in drawn]


def lapping(runs):
    return [pair for pair in itertools.combinations(runs, 2) if overlap_as_sets(*pair)]


class Lots(unittest.TestCase):
    def test_turnable_runs(self):
        for told in classes():
            for shelf in told.all():
                self.assertTrue(same(turnable_runs(shelf), told.turnable()))

    def test_turnable_runs_of_twelve(self):
        shelves = shelves_of_twelve()
        self.assertEqual(turnable_runs(shelves[1]), slow_runs(shelves[0]))
        self.assertEqual(turnable_runs(shelves[2]), [tuple(shelves[2].catalogue())])
        self.assertEqual(turnable_runs(ONE), [])

    def test_each_lot_is_of_just_one_shelf(self):
        for told in classes():
            by_awry, turnable = told.by_awry(), told.turnable()
            self.assertEqual(len(by_awry), len(told.all()))
            first, last = told.all()[0], told.all()[-1]
            for size in range(len(turnable) + 1 if len(turnable) < 8 else 3):
                for lot in itertools.combinations(turnable, size):
                    right = lapping(lot) == []
                    self.assertIs(lot in by_awry, right)
                    self.assertIs(is_lot(first, list(lot)), right)
                    if right:
                        self.assertTrue(same(shelf_of(first, list(lot)), by_awry[lot]))
                        self.assertTrue(same(shelf_of(last, list(lot)), by_awry[lot]))
                    else:
                        self.assertRaises(errors.InvalidLot, shelf_of, last, list(lot))

    def test_the_lots_of_all_shelves_of_a_class(self):
        for told in classes():
            for lot, shelf in told.by_awry().items():
                self.assertIs(is_lot(shelf, list(lot)), True)
                self.assertTrue(same(shelf_of(told.all()[0], list(lot)), shelf))

    def test_lots_of_twelve(self):
        for shelf in many_shelves():
            lot = slow_awry(shelf)
            self.assertIs(is_lot(shelf, lot), True)
            self.assertTrue(same(shelf_of(shelf, lot), shelf))
            self.assertEqual(slow_awry(shelf_of(shelf, lot[1:])), lot[1:])

    def test_is_lot_with_any_object(self):
        for shelf in (HOME, CAB):
            for value in any_objects():
                self.assertIs(is_lot(shelf, value), is_lot_of_abc(value), repr(value))
        for value in any_objects():
            self.assertIs(is_lot(ONE, value), same(value, []), repr(value))
            self.assertIs(is_lot(WILD, value), same(value, []) or same(value, [("a", "b", "c", "d")]), repr(value))


class Clashes(unittest.TestCase):
    def test_clash_and_is_clash(self):
        for told in classes_to_four():
            turnable, shelf = told.turnable(), told.all()[-1]
            pairs = list(itertools.product(turnable, repeat=2))
            for size in range(len(turnable) + 1):
                for runs in itertools.combinations(turnable, size):
                    wanted, found = lapping(runs), clash(shelf, list(runs))
                    self.assertEqual(found is None, wanted == [])
                    self.assertTrue(found is None or any(same(found, pair) for pair in wanted))
                    for pair in pairs:
                        self.assertIs(is_clash(shelf, list(runs), pair), pair in wanted)

    def test_is_clash_with_any_object(self):
        for shelf, runs, wanted in ((HOME, [AB, ALL, BC], [(AB, BC)]), (CAB, [AB, ALL], []), (ONE, [], []),
                                    (CAB, [AB], [])):
            for value in any_objects():
                self.assertIs(is_clash(shelf, runs, value), is_one_of(wanted)(value), repr(value))


class Full(unittest.TestCase):
    def test_coming_runs(self):
        for shelf in many_shelves():
            wanted = [run for run in slow_runs(shelf) if run not in slow_awry(shelf)]
            self.assertTrue(same(coming_runs(shelf), wanted))
            for run in wanted:
                self.assertEqual(slow_awry(slow_turned(shelf, run)), sorted(slow_awry(shelf) + [run]))

    def test_full_shelves(self):
        for told in classes():
            awry = {row_key(shelf): set(slow_awry(shelf)) for shelf in told.all()}
            full = [shelf for shelf in told.all() if not any(awry[row_key(shelf)] < other for other in awry.values())]
            for shelf in told.all():
                self.assertIs(is_full(shelf), shelf in full)
                wanted = [other for other in full if awry[row_key(shelf)] <= awry[row_key(other)]]
                self.assertIn(filled(shelf), wanted)
                for other in told.all():
                    self.assertIs(is_filled(shelf, other), other in wanted)

    def test_filled_of_twelve(self):
        for shelf in many_shelves():
            reached = filled(shelf)
            self.assertIs(is_filled(shelf, reached), True)
            self.assertEqual(slow_runs(reached), slow_awry(reached))
            self.assertLessEqual(set(slow_awry(shelf)), set(slow_awry(reached)))

    def test_is_filled_with_any_object(self):
        for shelf in (CAB, LEFT, RIGHT, HOME):
            for value in any_objects():
                wanted = type(value) is Shelf and value == CAB and BC not in slow_awry(shelf)
                self.assertIs(is_filled(shelf, value), wanted, repr(value))

    def test_is_filled_with_shelves_of_other_classes_and_catalogues(self):
        for value in (WILD, DLIW, CAB, Shelf(["d", "c", "b", "a"], ["c", "d", "a", "b"]), ONE):
            self.assertIs(is_filled(PLAIN, value), False)
        self.assertEqual([is_filled(WILD, WILD), is_filled(WILD, DLIW), is_filled(ONE, ONE)], [False, True, True])
        self.assertIs(is_filled(Shelf(["a", "b"], ["b", "a"]), Shelf(["b", "a"], ["a", "b"])), False)


class Both(unittest.TestCase):
    def test_met_and_either(self):
        for told in classes():
            by_awry = told.by_awry()
            for one, other in itertools.product(told.all()[:24], told.all()):
                first, second = set(slow_awry(one)), set(slow_awry(other))
                self.assertTrue(same(met(one, other), by_awry[tuple(sorted(first & second))]))
                wanted = by_awry.get(tuple(sorted(first | second)))
                self.assertEqual(wanted is None, lapping(first | second) != [])
                self.assertTrue(same(either(one, other), wanted))

    def test_barred_by(self):
        for told in classes():
            for shelf in told.all():
                for run in told.turnable():
                    wanted = [awry for awry in slow_awry(shelf) if overlap_as_sets(awry, run)]
                    self.assertTrue(same(barred_by(shelf, run), wanted))
                    self.assertEqual(wanted == [], run in slow_runs(shelf))


def slow_faces(shelf):
    around = {book: slow_around(shelf, (book,)) for book in shelf.catalogue()}
    return {book: "+" if knot is None else slow_sign(shelf, knot) for book, knot in around.items()}


def faces_by_turns(one, up):
    """What rows and faces turns lead to, each book of a run turned over, too."""
    begin = (row_key(one), tuple(sorted(up.items())))
    seen, waiting = {begin}, [begin]
    while waiting:
        row, told = waiting.pop()
        shelf = Shelf(one.catalogue(), list(row))
        for run in slow_runs(shelf):
            over = tuple((book, "-+"["+-".index(face)] if book in run else face) for book, face in told)
            reached = (row_key(slow_turned(shelf, run)), over)
            if reached not in seen:
                seen.add(reached)
                waiting.append(reached)
    return seen


class Faces(unittest.TestCase):
    def test_faces(self):
        for shelf in many_shelves():
            self.assertTrue(same(faces(shelf), slow_faces(shelf)))

    def test_edges(self):
        self.assertTrue(same(faces(ONE), {"z": "+"}))
        self.assertTrue(same(faces(Shelf(["b", "a"], ["a", "b"])), {"b": "-", "a": "-"}))
        self.assertTrue(same(faces(WILD), dict.fromkeys(ABCD, "+")))
        self.assertTrue(same(faces(DLIW), dict.fromkeys(ABCD, "-")))

    def test_turned_over(self):
        drawn = random.Random(7)
        for shelf, many in itertools.product(many_shelves(), (0, 1, 5, 12)):
            reached, turns = shelf, []
            for _ in range(many if slow_runs(shelf) else 0):
                turns.append(drawn.choice(slow_runs(reached)))
                reached = slow_turned(reached, turns[-1])
            wanted = sorted(book for book in shelf.catalogue() if sum(book in run for run in turns) % 2)
            self.assertTrue(same(turned_over(shelf, turns), wanted))
            # Whatever turns lead there: just the books whose faces are unlike.
            before, after = slow_faces(shelf), slow_faces(reached)
            self.assertEqual(wanted, sorted(book for book in before if before[book] != after[book]))

    def test_joined_with_faces(self):
        for catalogue in (["q"], ["b", "a"], ["b", "c", "a"]):
            shelves = [shelf for shelf in shelves_to_four() if shelf.catalogue() == catalogue]
            lots = [dict(zip(catalogue, told)) for told in itertools.product("+-", repeat=len(catalogue))]
            for one, up in itertools.product(shelves, lots):
                reached = faces_by_turns(one, up)
                for other, more in itertools.product(shelves, lots):
                    wanted = (row_key(other), tuple(sorted(more.items()))) in reached
                    self.assertIs(joined_with_faces(one, up, other, more), wanted)

    def test_joined_with_faces_of_four_books(self):
        lots = [dict(zip("cadb", told)) for told in itertools.product("+-", repeat=4)]
        shelves = [shelf for shelf in shelves_to_four() if len(shelf.row()) == 4]
        for one in shelves[::3]:
            reached = faces_by_turns(one, lots[3])
            for other, more in itertools.product(shelves, lots):
                wanted = (row_key(other), tuple(sorted(more.items()))) in reached
                self.assertIs(joined_with_faces(one, lots[3], other, more), wanted)

    def test_the_order_of_keys_means_nothing(self):
        backwards = {"c": "-", "b": "+", "a": "+"}
        self.assertIs(joined_with_faces(CAB, backwards, HOME, UPS), True)
        self.assertIs(joined_with_faces(HOME, UPS, CAB, backwards), True)
