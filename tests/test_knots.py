"""Points [24] to [30]: knots, their parts, kinds and signs, the tree, and what a turn does to them."""

import itertools
import unittest

from runturns import errors, knots as module
from runturns.knots import depth, is_knot, is_tree, kind_of, knot_around, knots, knots_gained, knots_lost, knots_of_kind
from runturns.knots import least_knot, part_numbers, parts_of, runs_of_knot, same_knots, sign_of, tree_of
from runturns.runs import run_turned
from runturns.shelves import Shelf
from tests.calls import Names, RightCalls, TwoShelves
from tests.helpers import ABC, Arguments, WrongArguments, any_objects, books_are_right, check_error, is_one_of, is_shelf
from tests.helpers import same
from tests.slow import TWELVE_BOOKS, crossed_rows, many_shelves, shelf_of_ranks, shelves_of_twelve, shelves_to_four
from tests.slow import slow_around, slow_kind, slow_knots, slow_numbers, slow_parts, slow_runs, slow_sign, slow_tree
from tests.slow import slow_turned

CAB, BAC = Shelf(ABC, ["c", "a", "b"]), Shelf(ABC, ["b", "a", "c"])
ONE = Shelf(["z"], ["z"])
ABCD = ["a", "b", "c", "d"]
WILD, PLAIN = Shelf(ABCD, ["b", "d", "a", "c"]), Shelf(ABCD, ABCD)
KINDS = ["rising", "falling", "crossed", "book"]
INTERFACE = {
    "depth": ["shelf"], "is_knot": ["shelf", "value"], "is_tree": ["shelf", "value"], "kind_of": ["shelf", "knot"],
    "knot_around": ["shelf", "knot"], "knots": ["shelf"], "knots_gained": ["shelf", "run"],
    "knots_lost": ["shelf", "run"], "knots_of_kind": ["shelf", "kind"], "least_knot": ["shelf", "some"],
    "part_numbers": ["shelf", "knot"], "parts_of": ["shelf", "knot"], "runs_of_knot": ["shelf", "knot"],
    "same_knots": ["one", "other"], "sign_of": ["shelf", "knot"], "tree_of": ["shelf"]}


def is_ascending_of_abc(value):
    return books_are_right(ABC, 1)(value) and value == sorted(value)


SHELF = (CAB, errors.InvalidShelf, is_shelf)
KNOT = (("a", "b"), errors.InvalidKnot, is_one_of([("a",), ("b",), ("c",), ("a", "b"), ("a", "b", "c")]))
RUN = (("a", "b"), errors.InvalidRun, is_one_of([("a", "b"), ("a", "b", "c")]))
VALUE = (("a", "b"), None, None)


class WrongInputs(WrongArguments, Names, unittest.TestCase):
    module = module
    interface = INTERFACE
    told = [
        Arguments(knots, SHELF), Arguments(is_knot, SHELF, VALUE), Arguments(parts_of, SHELF, KNOT),
        Arguments(knot_around, SHELF, KNOT), Arguments(part_numbers, SHELF, KNOT), Arguments(kind_of, SHELF, KNOT),
        Arguments(sign_of, SHELF, KNOT), Arguments(tree_of, SHELF), Arguments(is_tree, SHELF, VALUE),
        Arguments(depth, SHELF), Arguments(runs_of_knot, SHELF, KNOT),
        Arguments(least_knot, SHELF, (["a", "b"], errors.InvalidBooks, is_ascending_of_abc)),
        Arguments(knots_lost, SHELF, RUN), Arguments(knots_gained, SHELF, RUN), Arguments(same_knots, SHELF, SHELF),
        Arguments(knots_of_kind, SHELF, ("rising", errors.InvalidKind, is_one_of(KINDS)))]

    def test_knots_that_are_none(self):
        for function in (parts_of, knot_around, part_numbers, kind_of, sign_of, runs_of_knot):
            # A run that others overlap, one of another shelf, and lots of books that are no runs.
            for shelf, wrong in ((PLAIN, ("b", "c")), (PLAIN, ("a", "b", "c")), (WILD, ("a", "b")), (WILD, ()),
                                 (ONE, ("a",)), (ONE, "z"), (ONE, ["z"]), (PLAIN, ("d", "c", "b", "a"))):
                check_error(self, function, [shelf, wrong], errors.InvalidKnot, wrong)

    def test_books_that_are_none(self):
        for wrong in ([], ["b", "a"], ["a", "a"], ["a", "e"], ("a", "b"), "a", ["a", None], [["a"]], {"a": 1}):
            check_error(self, least_knot, [PLAIN, wrong], errors.InvalidBooks, wrong)


CALLS = [(function, [shelf]) for function in (knots, tree_of, depth) for shelf in (CAB, WILD, ONE, PLAIN)]
CALLS += [(function, [shelf, knot])
          for function in (parts_of, knot_around, part_numbers, kind_of, sign_of, runs_of_knot)
          for shelf, knot in ((CAB, ("a", "b")), (CAB, ("c",)), (WILD, tuple(ABCD)), (ONE, ("z",)))]
CALLS += [(function, [shelf, run]) for function in (knots_lost, knots_gained)
          for shelf, run in ((CAB, ("a", "b")), (PLAIN, ("b", "c")), (WILD, tuple(ABCD)))]
CALLS += [(is_knot, [CAB, ("a", "b")]), (is_knot, [CAB, ["a", "b"]]), (is_tree, [CAB, ("falling", ["c", "a", "b"])]),
          (is_tree, [WILD, ("crossed", ["b", "d", "a", "c"])]), (least_knot, [PLAIN, ["a", "b"]]),
          (least_knot, [CAB, ["b"]]), (same_knots, [CAB, BAC]), (same_knots, [PLAIN, WILD])]
CALLS += [(knots_of_kind, [shelf, kind]) for shelf in (CAB, WILD, ONE) for kind in KINDS]


class Calls(RightCalls, unittest.TestCase):
    calls = CALLS


class Two(TwoShelves, unittest.TestCase):
    unlike, apart = Shelf(["a", "b", "c", "e"], ["a", "b", "c", "e"]), WILD
    pairs = [(same_knots, [PLAIN, WILD], 1, [], None)]


class Knots(unittest.TestCase):
    def test_knots(self):
        for shelf in many_shelves():
            self.assertTrue(same(knots(shelf), slow_knots(shelf)))

    def test_is_knot_with_any_object(self):
        for shelf in (CAB, BAC, ONE, PLAIN, WILD, Shelf(["c", "b", "a"], ["b", "a", "c"])):
            judge = is_one_of(slow_knots(shelf))
            for value in any_objects():
                self.assertIs(is_knot(shelf, value), judge(value), repr(value))

    def test_is_knot_with_each_lot_of_books(self):
        for shelf in shelves_to_four():
            for size in range(5):
                for books in itertools.permutations(shelf.catalogue(), size):
                    self.assertIs(is_knot(shelf, books), books in slow_knots(shelf))
                    self.assertIs(is_knot(shelf, list(books)), False)
                    self.assertIs(is_knot(shelf, "".join(books)), False)

    def test_parts_numbers_and_what_is_around(self):
        for shelf in many_shelves():
            for knot in slow_knots(shelf):
                self.assertTrue(same(parts_of(shelf, knot), slow_parts(shelf, knot)))
                self.assertTrue(same(part_numbers(shelf, knot), slow_numbers(shelf, knot)))
                self.assertTrue(same(knot_around(shelf, knot), slow_around(shelf, knot)))

    def test_kinds_and_signs(self):
        for shelf in many_shelves():
            for knot in slow_knots(shelf):
                self.assertTrue(same(kind_of(shelf, knot), slow_kind(shelf, knot)))
                self.assertTrue(same(sign_of(shelf, knot), slow_sign(shelf, knot)))

    def test_knots_of_kind(self):
        for shelf in many_shelves():
            for kind in KINDS:
                wanted = [knot for knot in slow_knots(shelf) if slow_kind(shelf, knot) == kind]
                self.assertTrue(same(knots_of_kind(shelf, kind), wanted))

    def test_what_part_numbers_are_of_straight_knots(self):
        for shelf in many_shelves():
            for knot in slow_knots(shelf):
                numbers, kinds = part_numbers(shelf, knot), [kind_of(shelf, part) for part in parts_of(shelf, knot)]
                if kind_of(shelf, knot) in ("rising", "falling"):
                    order = sorted(numbers, reverse=kind_of(shelf, knot) == "falling")
                    self.assertEqual(numbers, order)
                    self.assertNotIn(kind_of(shelf, knot), kinds)
                if kind_of(shelf, knot) == "crossed":
                    self.assertGreaterEqual(len(numbers), 4)

    def test_the_least_knot_of_each_lot_of_books(self):
        for shelf in shelves_to_four():
            for size in range(1, 5):
                for books in itertools.combinations(sorted(shelf.catalogue()), size):
                    self.check_least(shelf, list(books))

    def test_the_least_knot_of_some_of_twelve(self):
        for shelf in shelves_of_twelve():
            for books in itertools.combinations(sorted(shelf.catalogue()), 3):
                self.check_least(shelf, list(books))
            self.check_least(shelf, sorted(shelf.catalogue()))

    def check_least(self, shelf, books):
        around = [knot for knot in slow_knots(shelf) if set(books) <= set(knot)]
        self.assertTrue(same(least_knot(shelf, books), min(around, key=len)))


class Trees(unittest.TestCase):
    def test_tree_of(self):
        for shelf in many_shelves():
            tree = slow_tree(shelf, tuple(shelf.catalogue()))
            self.assertTrue(same(tree_of(shelf), tree))
            self.assertIs(is_tree(shelf, tree), True)

    def test_is_tree_with_any_object(self):
        for shelf in (CAB, BAC, ONE, PLAIN, WILD, Shelf(["a"], ["a"])):
            tree = slow_tree(shelf, tuple(shelf.catalogue()))
            for value in any_objects() + [tree, [tree], (tree,), list(tree), str(tree)]:
                self.assertIs(is_tree(shelf, value), same(value, tree), repr(value))

    def test_is_tree_with_nearly_the_tree(self):
        tree = ("falling", ["c", ("rising", ["a", "b"])])
        self.assertIs(is_tree(CAB, tree), True)
        for wrong in (("falling", ["c", ("rising", ["b", "a"])]), ("falling", [("rising", ["a", "b"]), "c"]),
                      ("falling", ["c", ["rising", ["a", "b"]]]), ("falling", ("c", ("rising", ["a", "b"]))),
                      ("rising", ["c", ("rising", ["a", "b"])]), ("falling", ["c", ("rising", ["a", "b"])], None),
                      ("falling", [("c",), ("rising", ["a", "b"])]), ("falling", ["c", ("rising", ["a", "b", "d"])])):
            self.assertIs(is_tree(CAB, wrong), False)

    def test_each_shelf_has_its_own_tree(self):
        for catalogue in (["b", "c", "a"], ["c", "a", "d", "b"]):
            shelves = [shelf for shelf in shelves_to_four() if shelf.catalogue() == catalogue]
            for one, other in itertools.product(shelves, repeat=2):
                self.assertIs(is_tree(one, tree_of(other)), one == other)

    def test_depth(self):
        for shelf in many_shelves():
            chains = [sum(1 for other in slow_knots(shelf) if len(other) > 1 and set(knot) <= set(other))
                      for knot in slow_knots(shelf)]
            self.assertTrue(same(depth(shelf), max(chains)))

    def test_edges(self):
        self.assertEqual([knots(ONE), parts_of(ONE, ("z",)), part_numbers(ONE, ("z",)), knot_around(ONE, ("z",))],
                         [[("z",)], [], [], None])
        self.assertEqual([kind_of(ONE, ("z",)), sign_of(ONE, ("z",)), tree_of(ONE), depth(ONE)], ["book", None, "z", 0])
        two = [Shelf(["b", "a"], row) for row in (["b", "a"], ["a", "b"])]
        self.assertEqual([tree_of(shelf) for shelf in two], [("rising", ["b", "a"]), ("falling", ["a", "b"])])
        self.assertEqual([knots(shelf) for shelf in two], [[("a",), ("b",), ("b", "a")]] * 2)
        twelve = shelves_of_twelve()
        self.assertEqual(tree_of(twelve[0]), ("rising", TWELVE_BOOKS))
        self.assertEqual(tree_of(twelve[1]), ("falling", TWELVE_BOOKS[::-1]))
        self.assertEqual([depth(shelf) for shelf in twelve[:3]], [1, 1, 1])
        self.assertEqual(len(parts_of(twelve[2], tuple(TWELVE_BOOKS))), 12)
        self.assertEqual(part_numbers(twelve[1], tuple(TWELVE_BOOKS)), [11, 10, 9, 8, 7, 6, 5, 4, 3, 2, 1, 0])

    def test_rows_that_are_one_crossed_knot(self):
        self.assertEqual([len(crossed_rows(size)) for size in (4, 5)], [2, 6])
        for catalogue in (["c", "a", "d", "b"], ["c", "e", "a", "d", "b"]):
            for entries in crossed_rows(len(catalogue)):
                shelf = shelf_of_ranks(catalogue, entries)
                self.assertEqual(tree_of(shelf), ("crossed", shelf.row()))
                self.assertEqual(part_numbers(shelf, tuple(catalogue)), entries)
                self.assertEqual(sign_of(shelf, tuple(catalogue)), "+" if entries[0] < entries[-1] else "-")

    def test_crossed_within_straight_and_the_other_way_about(self):
        books = list("abcdefg")
        shelf = Shelf(books, ["c", "f", "g", "a", "b", "e", "d"])
        self.assertEqual(tree_of(shelf), ("crossed", ["c", ("rising", ["f", "g"]), ("rising", ["a", "b"]),
                                                      ("falling", ["e", "d"])]))
        shelf = Shelf(books, ["d", "f", "c", "e", "g", "b", "a"])
        self.assertEqual(tree_of(shelf), ("falling", [("rising", [("crossed", ["d", "f", "c", "e"]), "g"]), "b", "a"]))
        self.assertEqual(depth(shelf), 3)


class RunsOfKnots(unittest.TestCase):
    def test_runs_of_knot(self):
        for shelf in many_shelves():
            for knot in slow_knots(shelf):
                within = [run for run in slow_runs(shelf) if set(run) <= set(knot)]
                lesser = [other for other in slow_knots(shelf) if set(other) < set(knot)]
                wanted = [run for run in within if not any(set(run) <= set(other) for other in lesser)]
                self.assertTrue(same(runs_of_knot(shelf, knot), wanted))

    def test_every_run_is_of_just_one_knot(self):
        for shelf in many_shelves():
            told = [run for knot in knots(shelf) for run in runs_of_knot(shelf, knot)]
            self.assertEqual(sorted(told), slow_runs(shelf))


class Turns(unittest.TestCase):
    def test_knots_lost_and_gained(self):
        for shelf in many_shelves():
            before = slow_knots(shelf)
            for run in slow_runs(shelf):
                after = slow_knots(slow_turned(shelf, run))
                lost, gained = knots_lost(shelf, run), knots_gained(shelf, run)
                self.assertTrue(same(lost, [knot for knot in before if knot not in after]))
                self.assertTrue(same(gained, [knot for knot in after if knot not in before]))
                self.assertIn((lost, gained), [([], []), ([run], []), ([], [run])])

    def test_same_knots(self):
        shelves = shelves_to_four()
        for one in shelves:
            for other in shelves:
                if one.catalogue() == other.catalogue():
                    self.assertIs(same_knots(one, other), slow_knots(one) == slow_knots(other))

    def test_same_knots_of_more_books(self):
        for shelf in many_shelves()[-40:]:
            self.assertIs(same_knots(shelf, shelf), True)
            for run in slow_runs(shelf):
                turned = run_turned(shelf, run)
                self.assertIs(same_knots(shelf, turned), slow_knots(shelf) == slow_knots(turned))
