"""Points [31] to [36]: runs awry, homes, cores, heaps, and what parts shelves."""

import itertools
import unittest

from runturns import errors, homes as module
from runturns.homes import are_joined, awry_runs, core_numbers, core_of, core_parts, heaps_of, home_of, is_core
from runturns.homes import is_home, is_parting, parting, shelf_with
from runturns.shelves import Shelf
from tests.calls import Names, RightCalls, TwoShelves
from tests.helpers import ABC, Arguments, WrongArguments, any_objects, catalogue_is_right, check_error, is_one_of
from tests.helpers import is_shelf, same, shelves_of
from tests.slow import TWELVE_BOOKS, class_of, crossed_rows, drawn_of_small_class, many_shelves, row_key
from tests.slow import shelf_of_ranks, shelves_of_twelve, shelves_to_four, slow_awry, slow_core, slow_crossed
from tests.slow import slow_heaps, slow_knots, slow_numbers, slow_parts, slow_runs, slow_turned

CAB, ONE = Shelf(ABC, ["c", "a", "b"]), Shelf(["z"], ["z"])
ABCD, WHOLE = ["a", "b", "c", "d"], ("a", "b", "c", "d")
WILD, DLIW, PLAIN = Shelf(ABCD, ["b", "d", "a", "c"]), Shelf(ABCD, ["c", "a", "d", "b"]), Shelf(ABCD, ABCD)
FIVE = Shelf(["a", "b", "c", "d", "e"], ["c", "b", "e", "a", "d"])
HEAP, CROSSED = ("heap", ["a", "b", "c"]), ("crossed", [1, 3, 0, 2], ["a", "b", "c", "d"])
INTERFACE = {
    "awry_runs": ["shelf"], "are_joined": ["one", "other"], "home_of": ["shelf"], "is_home": ["shelf"],
    "core_numbers": ["shelf", "knot"], "core_parts": ["shelf", "knot"], "parting": ["one", "other"],
    "is_parting": ["one", "other", "value"], "heaps_of": ["shelf"], "core_of": ["shelf"],
    "is_core": ["catalogue", "value"], "shelf_with": ["catalogue", "core"]}

SHELF = (CAB, errors.InvalidShelf, is_shelf)
WILD_SHELF = (WILD, errors.InvalidShelf, is_shelf)
KNOT = (WHOLE, errors.InvalidKnot, is_one_of([WHOLE]))
CATALOGUE = (ABC, errors.InvalidCatalogue, catalogue_is_right)
VALUE = (WHOLE, None, None)


def small_shelves():
    """Every shelf of at most four books, and drawn ones of classes that can be gone through."""
    return shelves_to_four() + drawn_of_small_class(3, (5, 6, 7, 9), 14, 100) + drawn_of_small_class(4, (12,), 30, 100)


class WrongInputs(WrongArguments, Names, unittest.TestCase):
    module = module
    interface = INTERFACE
    told = [
        Arguments(awry_runs, SHELF), Arguments(are_joined, SHELF, SHELF), Arguments(home_of, SHELF),
        Arguments(is_home, SHELF), Arguments(core_numbers, WILD_SHELF, KNOT), Arguments(core_parts, WILD_SHELF, KNOT),
        Arguments(parting, SHELF, SHELF), Arguments(is_parting, SHELF, SHELF, VALUE), Arguments(heaps_of, SHELF),
        Arguments(core_of, SHELF), Arguments(is_core, CATALOGUE, (HEAP, None, None)),
        Arguments(shelf_with, CATALOGUE, (HEAP, errors.InvalidCore, is_one_of([HEAP])))]

    def test_knots_that_are_not_crossed(self):
        for function in (core_numbers, core_parts):
            for shelf, wrong in ((PLAIN, WHOLE), (WILD, ("a",)), (WILD, ("a", "b")), (FIVE, ("b", "c")), (ONE, ("z",)),
                                 (WILD, list(WHOLE)), (WILD, ("d", "c", "b", "a")), (FIVE, WHOLE)):
                check_error(self, function, [shelf, wrong], errors.InvalidKnot, wrong)


class Calls(RightCalls, unittest.TestCase):
    calls = [(function, [shelf]) for function in (awry_runs, home_of, is_home, heaps_of, core_of)
             for shelf in (CAB, WILD, DLIW, ONE, FIVE)]
    calls += [(function, [shelf, knot]) for function in (core_numbers, core_parts)
              for shelf, knot in ((DLIW, WHOLE), (FIVE, ("a", "b", "c", "d", "e")))]
    calls += [(function, [one, other]) for function in (are_joined, parting)
              for one, other in ((WILD, DLIW), (WILD, PLAIN), (WILD, WILD), (ONE, ONE))]
    calls += [(is_parting, [WILD, PLAIN, WHOLE]), (is_parting, [WILD, PLAIN, ["a"]]), (is_core, [ABC, HEAP]),
              (is_core, [ABCD, CROSSED]), (is_core, [ABC, {"a": [1]}]), (shelf_with, [ABC, HEAP]),
              (shelf_with, [ABCD, CROSSED]), (shelf_with, [["z"], "z"])]


class Two(TwoShelves, unittest.TestCase):
    unlike, apart = Shelf(["a", "b", "c", "e"], ["a", "b", "c", "e"]), WILD
    pairs = [(are_joined, [PLAIN, PLAIN], 1, [], None), (parting, [PLAIN, WILD], 1, [], None),
             (is_parting, [PLAIN, WILD, WHOLE], 1, [2], None)]


class Awry(unittest.TestCase):
    def test_awry_runs(self):
        for shelf in many_shelves():
            self.assertTrue(same(awry_runs(shelf), slow_awry(shelf)))

    def test_a_turn_puts_in_or_takes_out_the_run_that_is_turned(self):
        for shelf in many_shelves():
            for run in slow_runs(shelf):
                turned = awry_runs(slow_turned(shelf, run))
                self.assertEqual(sorted(set(awry_runs(shelf)) ^ set(turned)), [run])

    def test_nothing_awry_and_all_that_can_be(self):
        self.assertEqual([awry_runs(shelf) for shelf in (ONE, PLAIN, WILD)], [[], [], []])
        self.assertEqual([awry_runs(Shelf(["b", "a"], row)) for row in (["b", "a"], ["a", "b"])], [[], [("b", "a")]])
        row = ["b", "c", "a", "d"]
        self.assertEqual(awry_runs(Shelf(row, ["b", "a", "c", "d"])), [("c", "a")])
        # Of four books at most three runs stand awry at once.
        self.assertEqual(awry_runs(Shelf(ABCD, ["d", "a", "c", "b"])), [("a", "b", "c"), WHOLE, ("b", "c")])


class Homes(unittest.TestCase):
    def test_home_of(self):
        for shelf in small_shelves():
            told = class_of(shelf)
            homes = [one for one in told.all() if slow_awry(one) == []]
            self.assertEqual(len(homes), 1)
            self.assertTrue(same(home_of(shelf), homes[0]))
            self.assertIs(is_home(shelf), shelf == homes[0])
            self.assertIs(is_home(homes[0]), True)

    def test_homes_of_more_books(self):
        for shelf in many_shelves():
            reached = shelf
            for run in reversed(slow_awry(shelf)):
                self.assertIn(run, slow_runs(reached))
                reached = slow_turned(reached, run)
            self.assertTrue(same(home_of(shelf), reached))
            self.assertIs(is_home(shelf), slow_awry(shelf) == [])

    def test_each_two_shelves_of_at_most_four_books(self):
        for one, other in itertools.product(shelves_to_four(), repeat=2):
            if one.catalogue() == other.catalogue():
                joined = row_key(other) in class_of(one).shelves
                self.assertIs(are_joined(one, other), joined)
                self.assertIs(home_of(one) == home_of(other), joined)
                self.assertIs(core_of(one) == core_of(other), joined)
                self.check_parting(one, other, joined)

    def test_drawn_shelves_and_those_a_change_of_places_away(self):
        for shelf in small_shelves()[-40:]:
            told, row = class_of(shelf), shelf.row()
            self.assertTrue(all(are_joined(shelf, other) for other in told.all()))
            for at in range(len(row) - 1):
                other = Shelf(shelf.catalogue(), row[:at] + [row[at + 1], row[at]] + row[at + 2:])
                joined = row_key(other) in told.shelves
                self.assertIs(are_joined(shelf, other), joined)
                self.check_parting(shelf, other, joined)

    def check_parting(self, one, other, joined):
        found = parting(one, other)
        self.assertIs(found is None, joined)
        if found is not None:
            self.assertTrue(any(same(found, wanted) for wanted in self.partings(one, other)))
            self.assertIs(is_parting(one, other, found), True)
        self.assertIs(is_parting(one, other, None), False)

    def partings(self, one, other):
        """[34], of its words."""
        first, second = slow_crossed(one), slow_crossed(other)
        found = []
        for knot in sorted(set(first + second)):
            if knot not in first or knot not in second:
                found.append(knot)
            elif set(slow_parts(one, knot)) != set(slow_parts(other, knot)):
                found.append(knot)
            elif self.numbers(one, knot) != self.numbers(other, knot):
                found.append(knot)
        return found

    def numbers(self, shelf, knot):
        told = slow_numbers(shelf, knot)
        return min(told, told[::-1])

    def test_is_parting_with_each_lot_of_books(self):
        shelves = shelves_of(["c", "a", "d", "b"])
        for one, other in itertools.product(shelves[::5] + shelves[10:14], repeat=2):
            wanted = self.partings(one, other)
            for size in range(5):
                for books in itertools.combinations(one.catalogue(), size):
                    self.assertIs(is_parting(one, other, books), books in wanted)
                    self.assertIs(is_parting(one, other, list(books)), False)

    def test_partings_by_knots_parts_and_numbers(self):
        books = list("abcdefg")
        by_knots = Shelf(books, ["b", "d", "a", "c", "e", "f", "g"])
        by_numbers = Shelf(books[:5], ["b", "d", "a", "e", "c"]), Shelf(books[:5], ["b", "e", "c", "a", "d"])
        by_parts = Shelf(books[:5], ["b", "c", "e", "a", "d"]), Shelf(books[:5], ["c", "e", "a", "b", "d"])
        for one, other in ((by_knots, Shelf(books, books)), by_numbers, by_parts):
            wanted = self.partings(one, other)
            self.assertEqual(len(wanted), 1)
            self.assertIn(parting(one, other), wanted)
            self.assertIn(parting(other, one), wanted)
            self.assertIs(is_parting(one, other, wanted[0]), True)
            self.assertIs(is_parting(other, one, wanted[0]), True)
            self.assertIs(is_parting(one, one, wanted[0]), False)

    def test_is_parting_with_any_object(self):
        for one, other in ((WILD, PLAIN), (WILD, DLIW), (CAB, CAB)):
            wanted = self.partings(one, other)
            for value in any_objects():
                self.assertIs(is_parting(one, other, value), is_one_of(wanted)(value), repr(value))


class Cores(unittest.TestCase):
    def test_numbers_and_parts_of_crossed_knots(self):
        for shelf in many_shelves():
            for knot in slow_crossed(shelf):
                numbers = slow_numbers(shelf, knot)
                self.assertTrue(same(core_numbers(shelf, knot), min(numbers, numbers[::-1])))
                wanted = sorted(slow_parts(shelf, knot), key=lambda part: shelf.catalogue().index(part[0]))
                self.assertTrue(same(core_parts(shelf, knot), wanted))

    def test_knots_that_are_not_crossed(self):
        for shelf in many_shelves():
            for knot in slow_knots(shelf):
                if knot not in slow_crossed(shelf):
                    check_error(self, core_numbers, [shelf, knot], errors.InvalidKnot, knot)
                    check_error(self, core_parts, [shelf, knot], errors.InvalidKnot, knot)

    def test_heaps_and_cores(self):
        for shelf in small_shelves():
            self.assertTrue(same(heaps_of(shelf), slow_heaps(shelf)))
            core = slow_core(shelf)
            self.assertTrue(same(core_of(shelf), core))
            self.assertIs(is_core(shelf.catalogue(), core), True)
            self.assertTrue(same(shelf_with(shelf.catalogue(), core), home_of(shelf)))

    def test_joined_shelves_have_the_same_heaps_and_core(self):
        for shelf in small_shelves()[-30:]:
            for other in class_of(shelf).all():
                self.assertTrue(same([heaps_of(shelf), core_of(shelf)], [heaps_of(other), core_of(other)]))

    def test_of_twelve(self):
        shelves = shelves_of_twelve()
        for shelf in shelves:
            core = core_of(shelf)
            self.assertIs(is_core(TWELVE_BOOKS, core), True)
            self.assertTrue(same(shelf_with(TWELVE_BOOKS, core), home_of(shelf)))
        for shelf in shelves[:2]:
            self.assertEqual(core_of(shelf), ("heap", TWELVE_BOOKS))
            self.assertEqual(heaps_of(shelf), [[(book,) for book in TWELVE_BOOKS]])
            self.assertEqual(home_of(shelf), shelves[0])
        self.assertEqual(core_of(shelves[2]), ("crossed", [1, 3, 5, 7, 9, 11, 0, 2, 4, 6, 8, 10], TWELVE_BOOKS))
        self.assertEqual([heaps_of(shelves[2]), core_of(ONE), heaps_of(ONE)], [[], "z", []])

    def test_rows_that_are_one_crossed_knot(self):
        for size in (4, 5):
            catalogue = ["c", "e", "a", "d", "b"][:size]
            for entries in crossed_rows(size):
                shelf = shelf_of_ranks(catalogue, entries)
                numbers = min(entries, entries[::-1])
                self.assertEqual(core_of(shelf), ("crossed", numbers, catalogue))
                self.assertEqual(home_of(shelf), shelf_of_ranks(catalogue, numbers))
                self.assertEqual(awry_runs(shelf), [] if numbers == entries else [tuple(catalogue)])

    def test_the_cores_of_the_small_catalogues(self):
        for catalogue in (["q"], ["b", "a"], ["b", "c", "a"], ["c", "a", "d", "b"], ["b", "e", "a", "d", "c"]):
            cores = []
            for shelf in shelves_of(catalogue):
                if core_of(shelf) not in cores:
                    cores.append(core_of(shelf))
            self.assertEqual(len(cores), {1: 1, 2: 1, 3: 1, 4: 2, 5: 10}[len(catalogue)])
            for core in cores:
                self.assertEqual(core_of(shelf_with(catalogue, core)), core)


def spoilt_cores():
    """For a catalogue of four books or more, values that are nearly cores."""
    crossed = [(1, 3, 0, 2), [1, 3, 0], [1, 3, 0, 2, 4], [1, 3, 0, 3], [True, 3, 0, 2], [1, 3, False, 2],
               [2, 0, 3, 1], [0, 1, 2, 3], [1, 0, 3, 2], [1, 3, 2, 0], [1, 4, 0, 2], [1, 3, -1, 2],
               ["1", "3", "0", "2"], [1, 3, 0, 2, 2], [1, 3, 0, 2, 0], [1, 3, 3, 0, 2],
               [0, 2, 1, 3], [None] * 4, [[1], 3, 0, 2], "1302", None, [2, 4, 1, 3], [0, 2, 3, 1]]
    return [("crossed", numbers, ["a", "b", "c", "d"]) for numbers in crossed] + [
        ("crossed", [1, 3, 0, 2], ["a", "b", "d", "c"]), ("crossed", [1, 3, 0, 2], ("a", "b", "c", "d")),
        ["crossed", [1, 3, 0, 2], ["a", "b", "c", "d"]], ("crossed", ["a", "b", "c", "d"], [1, 3, 0, 2]),
        ("Crossed", [1, 3, 0, 2], ["a", "b", "c", "d"]), ("heap", [1, 3, 0, 2], ["a", "b", "c", "d"]),
        ("crossed", [1, 3, 0, 2], ["a", "b", "c", ("heap", ["d"])]), ("crossed", [1, 3, 0, 2], ["a", "b", "c", ["d"]]),
        ("crossed", [1, 3, 0, 2], ["a", "b", "c"]), ("crossed", [1, 3, 0, 2], ["a", "b", "c", "d", "e"]),
        ("crossed", [1, 3, 0, 2], ["a", "b", "c", "d"], None), ("crossed", [], []), ("heap", []), ("heap", ["a"]),
        ("heap", ["a", "b", "c"]), ("heap", ["a", "b", "d", "c"]), ("heap", ("a", "b", "c", "d")),
        ["heap", ["a", "b", "c", "d"]], ("heap", ["a", "b", "c", "d", "e"]), ("heap", ["a", "b", "c", ("heap", ["d"])]),
        ("heap", ["a", "b", ("heap", ["c", "d"])]), ("heap", [("heap", ["a", "b"]), ("heap", ["c", "d"])]),
        ("heap", ["a", "b", "c", "c"]), ("heap", ["a", "b", "c", "D"]), ("heap", ["a", "b", "c", None]),
        ("heap", [["a", "b", "c", "d"]]), ("heap",), ("heap", ["a", "b"], ["c", "d"]), "a", ["a"], ("a",), "abcd",
        ("heap", "abcd"), ("heap", {"a": 1, "b": 2, "c": 3, "d": 4}), {"heap": ["a", "b", "c", "d"]}]


class AnyCores(unittest.TestCase):
    def cores(self, catalogue):
        return [slow_core(shelf) for shelf in shelves_of(catalogue)]

    def test_is_core_with_any_object(self):
        for catalogue in (["a"], ["b"], ["a", "b"], ABC, ["c", "b", "a"], ABCD):
            judge = is_one_of(self.cores(catalogue))
            for value in any_objects() + spoilt_cores():
                self.assertIs(is_core(catalogue, value), judge(value), (catalogue, value))

    def test_values_that_are_nearly_cores(self):
        for value in spoilt_cores():
            self.assertIs(is_core(ABCD, value), False, repr(value))
            check_error(self, shelf_with, [ABCD, value], errors.InvalidCore, value)
        self.assertEqual([is_core(ABCD, value) for value in (CROSSED, ("heap", ABCD))], [True, True])

    def test_crossed_knots_have_four_parts_at_least(self):
        for many in range(4):
            for numbers in itertools.permutations(range(many)):
                books = ABC[:many]
                self.assertIs(is_core(books or ["a"], ("crossed", list(numbers), books)), False)

    def test_nested_values_that_are_cores(self):
        books = list("abcdefghij")
        inner = ("crossed", [1, 3, 0, 2], ["b", ("heap", ["c", "d"]), "e", "f"])
        core = ("heap", ["a", inner, ("crossed", [1, 3, 0, 2], ["g", "h", "i", "j"])])
        self.assertIs(is_core(books, core), True)
        shelf = shelf_with(books, core)
        self.assertEqual(shelf.row(), ["a", "c", "d", "f", "b", "e", "h", "j", "g", "i"])
        self.assertTrue(same(core_of(shelf), core))
        self.assertIs(is_core(books[:9], core), False)
        self.assertIs(is_core(books[::-1], core), False)
        self.assertIs(is_core(books, ("heap", [("heap", ["a", inner]), core[1][2]])), False)
        five = ("crossed", [1, 4, 2, 0, 3], ["a", ("crossed", [1, 3, 0, 2], ["b", "c", "d", "e"]), "f", "g", "h"])
        self.assertIs(is_core(books[:8], five), True)
        self.assertEqual(shelf_with(books[:8], five).row(), ["c", "e", "b", "d", "h", "f", "a", "g"])

    def test_numbers_of_each_order(self):
        for size in (4, 5, 6):
            books = list("fedcba"[:size])
            simple = crossed_rows(size)
            for order in itertools.permutations(range(size)):
                wanted = list(order) in simple and list(order) < list(order)[::-1]
                self.assertIs(is_core(books, ("crossed", list(order), books)), wanted)

    def test_what_was_passed_as_a_core_is_free(self):
        core = ("crossed", [1, 3, 0, 2], ["a", "b", "c", "d"])
        shelf = shelf_with(ABCD, core)
        core[1].reverse()
        core[2].clear()
        self.assertTrue(same(shelf, WILD))
        self.assertTrue(same(core_of(shelf), CROSSED))
