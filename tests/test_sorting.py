"""Points [61] to [66]: what can be sorted, bad fours, nests, and the books that have to go."""

import itertools
import unittest

from runturns import errors, sorting as module
from runturns.shelves import Shelf
from runturns.sorting import always_out, bad_four_in, bad_fours, books_out, can_be_sorted, fewest_out, is_bad_four
from runturns.sorting import is_bad_four_in, is_books_out, is_nest, least_outs, nest, never_out, sortable_runs
from runturns.sorting import sorting_turns, sorts_without
from tests.calls import Names, RightCalls
from tests.helpers import ABC, Arguments, WrongArguments, any_objects, books_are_right, check_error, is_one_of, is_shelf
from tests.helpers import same, shelves_of
from tests.slow import class_of, crossed_rows, drawn_shelves, many_shelves, row_key, shelf_of_ranks, shelves_of_twelve
from tests.slow import shelves_to_four, slow_awry, slow_crossed, slow_knots, slow_parts, slow_runs

CAB, ONE = Shelf(ABC, ["c", "a", "b"]), Shelf(["z"], ["z"])
ABCD, WHOLE = ["a", "b", "c", "d"], ("a", "b", "c", "d")
WILD, DLIW, PLAIN = Shelf(ABCD, ["b", "d", "a", "c"]), Shelf(ABCD, ["c", "a", "d", "b"]), Shelf(ABCD, ABCD)
FIVE = Shelf(["a", "b", "c", "d", "e"], ["c", "e", "a", "b", "d"])
INTERFACE = {
    "can_be_sorted": ["shelf"], "sorting_turns": ["shelf"], "bad_fours": ["shelf"], "is_bad_four": ["shelf", "value"],
    "bad_four_in": ["shelf", "knot"], "is_bad_four_in": ["shelf", "knot", "value"], "nest": ["shelf"],
    "is_nest": ["shelf", "value"], "sorts_without": ["shelf", "books"], "fewest_out": ["shelf"],
    "books_out": ["shelf"], "is_books_out": ["shelf", "value"], "least_outs": ["shelf"], "always_out": ["shelf"],
    "never_out": ["shelf"], "sortable_runs": ["shelf"]}


def are_books_but_not_all(value):
    return books_are_right(ABC, 0)(value) and value == sorted(value) and len(value) < 3


SHELF = (CAB, errors.InvalidShelf, is_shelf)
WILD_SHELF = (WILD, errors.InvalidShelf, is_shelf)
KNOT = (WHOLE, errors.InvalidKnot, is_one_of([WHOLE]))
VALUE = (("b", "d", "a", "c"), None, None)


class WrongInputs(WrongArguments, Names, unittest.TestCase):
    module = module
    interface = INTERFACE
    told = [Arguments(function, SHELF) for function in (can_be_sorted, sorting_turns, bad_fours, nest, fewest_out,
                                                        books_out, least_outs, always_out, never_out, sortable_runs)]
    told += [Arguments(function, SHELF, VALUE) for function in (is_bad_four, is_nest, is_books_out)]
    told += [Arguments(bad_four_in, WILD_SHELF, KNOT), Arguments(is_bad_four_in, WILD_SHELF, KNOT, VALUE),
             Arguments(sorts_without, SHELF, (["a"], errors.InvalidBooks, are_books_but_not_all))]

    def test_knots_that_are_not_crossed(self):
        for shelf, wrong in ((PLAIN, WHOLE), (WILD, ("a",)), (WILD, ("a", "b")), (FIVE, ("a", "b")), (ONE, ("z",)),
                             (WILD, list(WHOLE)), (WILD, ("b", "d", "a", "c")), (FIVE, WHOLE), (WILD, None)):
            check_error(self, bad_four_in, [shelf, wrong], errors.InvalidKnot, wrong)
            for value in (None, ("b", "d", "a", "c")):
                check_error(self, is_bad_four_in, [shelf, wrong, value], errors.InvalidKnot, wrong)

    def test_books_that_are_none(self):
        for wrong in (["b", "a"], ["a", "a"], ["a", "x"], ("a",), "a", {"a": 1}, ["a", "b", "c"], None, [None], [["a"]],
                      ["a", True], ()):
            check_error(self, sorts_without, [CAB, wrong], errors.InvalidBooks, wrong)
        wrong = ["z"]
        check_error(self, sorts_without, [ONE, wrong], errors.InvalidBooks, wrong)
        self.assertIs(sorts_without(ONE, []), True)


class Calls(RightCalls, unittest.TestCase):
    calls = [(function, [shelf])
             for function in (can_be_sorted, sorting_turns, bad_fours, nest, fewest_out, books_out, least_outs,
                              always_out, never_out, sortable_runs)
             for shelf in (CAB, WILD, FIVE, ONE)]
    calls += [(is_bad_four, [WILD, ("b", "d", "a", "c")]), (is_bad_four, [WILD, ["b", "d", "a", "c"]]),
              (bad_four_in, [WILD, WHOLE]), (bad_four_in, [FIVE, ("a", "b", "c", "d", "e")]),
              (is_bad_four_in, [WILD, WHOLE, ("b", "d", "a", "c")]), (is_bad_four_in, [WILD, WHOLE, ["b"]]),
              (is_nest, [CAB, ("-", "c", ("+", "a", "b"))]), (is_nest, [CAB, {"a": [1]}]),
              (sorts_without, [FIVE, ["a"]]), (sorts_without, [FIVE, ["a", "b"]]), (is_books_out, [FIVE, ["d"]]),
              (is_books_out, [FIVE, ("d",)])]


def sortable(shelf):
    return slow_crossed(shelf) == []


def slow_bad_fours(shelf):
    """[62], of its words."""
    found, place = [], shelf.catalogue().index
    for four in itertools.combinations(shelf.row(), 4):
        ahead = sorted(four, key=place)
        if [ahead.index(book) for book in four] in ([1, 3, 0, 2], [2, 0, 3, 1]):
            found.append(four)
    return sorted(found)


def slow_cut(shelf, books):
    return Shelf([book for book in shelf.catalogue() if book not in books],
                 [book for book in shelf.row() if book not in books])


def slow_enough(shelf):
    """All ascending lists of books, not of all, without which the shelf can be sorted."""
    books = sorted(shelf.catalogue())
    return [list(some) for size in range(len(books)) for some in itertools.combinations(books, size)
            if sortable(slow_cut(shelf, some))]


class Sorting(unittest.TestCase):
    def test_can_be_sorted_and_sorting_turns(self):
        for shelf in shelves_to_four() + shelves_of(["b", "e", "a", "d", "c"]):
            goal, told = tuple(shelf.catalogue()), class_of(shelf)
            self.assertIs(can_be_sorted(shelf), goal in told.shelves)
            if row_key(shelf) == goal or goal not in told.shelves:
                layers = told.layers_from(shelf)
                for row in layers:
                    wanted = layers[row] if goal in layers else None
                    self.assertTrue(same(sorting_turns(told.shelves[row]), wanted))

    def test_of_more_books(self):
        for shelf in many_shelves():
            self.assertIs(can_be_sorted(shelf), sortable(shelf))
            self.assertTrue(same(sorting_turns(shelf), len(slow_awry(shelf)) if sortable(shelf) else None))
            self.assertIs(can_be_sorted(shelf), slow_bad_fours(shelf) == [])

    def test_edges(self):
        rising, falling, crossed = shelves_of_twelve()[:3]
        self.assertEqual([sorting_turns(shelf) for shelf in (ONE, rising, falling, crossed)], [0, 0, 1, None])
        self.assertEqual([can_be_sorted(shelf) for shelf in (ONE, rising, falling, crossed)], [True, True, True, False])
        self.assertEqual([sorting_turns(Shelf(["b", "a"], row)) for row in (["b", "a"], ["a", "b"])], [0, 1])


class BadFours(unittest.TestCase):
    def test_bad_fours(self):
        for shelf in many_shelves():
            self.assertTrue(same(bad_fours(shelf), slow_bad_fours(shelf)))

    def test_is_bad_four_with_all_fours(self):
        for shelf in shelves_of(["c", "a", "d", "b"]) + drawn_shelves(1, (5, 6, 7, 9, 12), 12)[:24]:
            wanted = slow_bad_fours(shelf)
            for four in itertools.permutations(shelf.catalogue(), 4):
                self.assertIs(is_bad_four(shelf, four), four in wanted)

    def test_is_bad_four_with_any_object(self):
        for shelf in (WILD, DLIW, PLAIN, ONE, FIVE):
            judge = is_one_of(slow_bad_fours(shelf))
            for value in any_objects() + [("b", "d", "a", "c"), ["b", "d", "a", "c"], ("c", "a", "d", "b"), "bdac",
                                          ("b", "d", "a", "c", "e"), ("b", "d", "a"), ("b", "d", "a", None)]:
                self.assertIs(is_bad_four(shelf, value), judge(value), repr(value))

    def test_bad_fours_in_unlike_parts_of_a_crossed_knot(self):
        for shelf in many_shelves():
            for knot in slow_crossed(shelf):
                number = {book: at for at, part in enumerate(slow_parts(shelf, knot)) for book in part}
                wanted = [four for four in slow_bad_fours(shelf) if set(four) <= set(knot)
                          and len({number[book] for book in four}) == 4]
                found = bad_four_in(shelf, knot)
                self.assertTrue(any(same(found, four) for four in wanted))
                for four in slow_bad_fours(shelf):
                    self.assertIs(is_bad_four_in(shelf, knot, four), four in wanted)

    def test_knots_that_are_not_crossed(self):
        for shelf in many_shelves():
            for knot in slow_knots(shelf):
                if knot not in slow_crossed(shelf):
                    check_error(self, bad_four_in, [shelf, knot], errors.InvalidKnot, knot)

    def test_crossed_knots_within_others_and_side_by_side(self):
        books = list("abcdefg")
        within, inner = Shelf(books, ["b", "d", "a", "c", "g", "f", "e"]), ("a", "b", "c", "d")
        self.assertEqual(bad_four_in(within, inner), ("b", "d", "a", "c"))
        outer = Shelf(books, ["e", "g", "b", "d", "a", "c", "f"])
        self.assertEqual(slow_crossed(outer), [inner, tuple(books)])
        self.assertIs(is_bad_four_in(outer, tuple(books), ("b", "d", "a", "c")), False)
        self.assertIs(is_bad_four_in(outer, inner, ("b", "d", "a", "c")), True)
        side = Shelf(list("abcdefgh"), ["c", "a", "d", "b", "f", "h", "e", "g"])
        self.assertEqual(bad_fours(side), [("c", "a", "d", "b"), ("f", "h", "e", "g")])
        for knot, four in ((("a", "b", "c", "d"), ("c", "a", "d", "b")), (("e", "f", "g", "h"), ("f", "h", "e", "g"))):
            self.assertEqual(bad_four_in(side, knot), four)
            self.assertEqual([is_bad_four_in(side, knot, bad) for bad in bad_fours(side)],
                             [bad == four for bad in bad_fours(side)])

    def test_is_bad_four_in_with_any_object(self):
        for value in any_objects() + [("b", "d", "a", "c"), ["b", "d", "a", "c"], ("c", "a", "d", "b")]:
            self.assertIs(is_bad_four_in(WILD, WHOLE, value), same(value, ("b", "d", "a", "c")), repr(value))


def all_nests(row):
    """All nests, of whatever signs, whose books from left to right are a row."""
    if len(row) == 1:
        return [row[0]]
    found = []
    for size in range(1, len(row)):
        for cuts in itertools.combinations(range(1, len(row)), size):
            ends = [0] + list(cuts) + [len(row)]
            inner = [all_nests(row[start:end]) for start, end in zip(ends, ends[1:])]
            found += [(sign,) + nests for sign in "+-" for nests in itertools.product(*inner)]
    return found


def books_of(value):
    return [value] if type(value) is str else [book for inner in value[1:] for book in books_of(inner)]


def nest_is_right(shelf, value):
    """[63], for a nest of the row."""
    if type(value) is str:
        return True
    place = shelf.catalogue().index
    lots = [[place(book) for book in books_of(inner)] for inner in value[1:]]
    lots = lots if value[0] == "+" else lots[::-1]
    return all(max(ahead) < min(behind) for ahead, behind in zip(lots, lots[1:])) and \
        all(nest_is_right(shelf, inner) for inner in value[1:])


def has_nest_of_own_sign(value):
    return type(value) is tuple and any(type(inner) is tuple and (inner[0] == value[0] or has_nest_of_own_sign(inner))
                                        for inner in value[1:])


class Nests(unittest.TestCase):
    def test_all_nests_of_the_row(self):
        for shelf in shelves_to_four() + drawn_shelves(1, (5, 6, 7, 9, 12), 12)[:12]:
            right = []
            for value in all_nests(shelf.row()):
                wanted = nest_is_right(shelf, value)
                self.assertIs(is_nest(shelf, value), wanted)
                right += [value] if wanted and not has_nest_of_own_sign(value) else []
            self.assertEqual(len(right), 1 if can_be_sorted(shelf) else 0)
            self.assertTrue(same(nest(shelf), right[0] if right else None))

    def test_nests_of_other_rows(self):
        shelves = shelves_of(["b", "c", "a"])
        for one, other in itertools.product(shelves, repeat=2):
            for value in all_nests(other.row()):
                self.assertIs(is_nest(one, value), one == other and nest_is_right(one, value))

    def test_more_books(self):
        for shelf in many_shelves():
            told = nest(shelf)
            self.assertEqual(told is None, not sortable(shelf))
            if told is not None:
                self.assertEqual(books_of(told), shelf.row())
                self.assertIs(nest_is_right(shelf, told), True)
                self.assertIs(has_nest_of_own_sign(told), False)
            self.assertIs(is_nest(shelf, told), told is not None)

    def test_is_nest_with_any_object(self):
        for shelf in (CAB, Shelf(ABC, ABC), ONE, Shelf(["a"], ["a"]), WILD, Shelf(ABC, ["b", "a", "c"])):
            judge = is_one_of([value for value in all_nests(shelf.row()) if nest_is_right(shelf, value)])
            for value in any_objects():
                self.assertIs(is_nest(shelf, value), judge(value), repr(value))

    def test_values_that_are_nearly_nests(self):
        self.assertIs(is_nest(CAB, ("-", "c", ("+", "a", "b"))), True)
        for wrong in (("-", "c", ("-", "a", "b")), ("+", "c", ("+", "a", "b")), ("-", "c", "a", "b"), ("-", "c", "ab"),
                      ("-", ("-", "c", "a"), "b"), ("-", "c", ["+", "a", "b"]), ["-", "c", ("+", "a", "b")], "cab",
                      ("-", ("c",), ("+", "a", "b")), ("-", "c", ("+", "a")), ("-", ("-", "c"), ("+", "a", "b")),
                      ("-", "c", ("+", "a", "b"), ("+",)), ("+", ("-", "c", ("+", "a", "b"))), ("c", "a", "b"),
                      ("-", "c", ("+", "a", "b"), "b"), ("--", "c", ("+", "a", "b")), (None, "c", ("+", "a", "b")),
                      ("-", "c", ("+", "a", None)), ("-", "c", ("+", "a", "d")), (), ("-",), ["c", "a", "b"]):
            self.assertIs(is_nest(CAB, wrong), False, repr(wrong))

    def test_signs_that_are_none(self):
        for row, right in ((ABC, "+"), (ABC[::-1], "-")):
            for sign in ("+", "-", "", "++", None, True, ("+",), ["+"], "a", 0):
                self.assertIs(is_nest(Shelf(ABC, row), (sign, *row)), sign == right, sign)

    def test_edges(self):
        rising, falling = shelves_of_twelve()[:2]
        self.assertTrue(same(nest(ONE), "z"))
        self.assertEqual([nest(rising), nest(falling)], [tuple("+kbhdalcgifje"), tuple("-ejfigcladhbk")])
        deep = "k"
        for book in "bhdalcgifje":
            deep = ("+", deep, book)
        self.assertIs(is_nest(rising, deep), True)
        self.assertIs(is_nest(falling, deep), False)


def shelves_to_seven():
    told = [shelf_of_ranks(list("gcefadb"), row) for row in crossed_rows(7)[::30]]
    return shelves_to_four() + drawn_shelves(43, (5, 6, 7), 14) + told


class BooksOut(unittest.TestCase):
    def test_sorts_without(self):
        for shelf in shelves_to_seven():
            enough, books = slow_enough(shelf), sorted(shelf.catalogue())
            for size in range(len(books)):
                for some in itertools.combinations(books, size):
                    self.assertIs(sorts_without(shelf, list(some)), list(some) in enough)

    def test_lists_of_books_out(self):
        for shelf in shelves_to_seven():
            enough = slow_enough(shelf)
            fewest = min(len(books) for books in enough)
            few = [books for books in enough if len(books) == fewest]
            least = [books for books in enough if not any(set(other) < set(books) for other in enough)]
            self.assertTrue(same(fewest_out(shelf), fewest))
            self.assertTrue(any(same(books_out(shelf), books) for books in few))
            self.assertTrue(same(least_outs(shelf), sorted(least)))
            always = [book for book in sorted(shelf.catalogue()) if all(book in books for books in few)]
            never = [book for book in sorted(shelf.catalogue()) if not any(book in books for books in least)]
            self.assertTrue(same(always_out(shelf), always))
            self.assertTrue(same(never_out(shelf), never))
            self.check_is_books_out(shelf, few)

    def check_is_books_out(self, shelf, few):
        books = sorted(shelf.catalogue())
        for size in range(len(books) + 1):
            for some in itertools.combinations(books, size):
                self.assertIs(is_books_out(shelf, list(some)), list(some) in few)
                self.assertIs(is_books_out(shelf, list(some[::-1])), list(some[::-1]) in few)
                self.assertIs(is_books_out(shelf, some), False)

    def test_enough_exactly_if_each_bad_four_has_one(self):
        for shelf in shelves_to_seven():
            for some in itertools.combinations(sorted(shelf.catalogue()), min(3, len(shelf.row()) - 1)):
                wanted = all(set(four) & set(some) for four in slow_bad_fours(shelf))
                self.assertIs(sorts_without(shelf, list(some)), wanted)

    def test_is_books_out_with_any_object(self):
        for shelf, few in ((WILD, [["a"], ["b"], ["c"], ["d"]]), (CAB, [[]]), (ONE, [[]]),
                           (FIVE, [["c"], ["d"], ["e"]])):
            judge = is_one_of(few)
            for value in any_objects():
                self.assertIs(is_books_out(shelf, value), judge(value), repr(value))

    def test_edges(self):
        for shelf in (ONE, CAB, PLAIN, Shelf(["b", "a"], ["a", "b"])):
            self.assertTrue(same([fewest_out(shelf), books_out(shelf), least_outs(shelf), always_out(shelf)],
                                 [0, [], [[]], []]))
            self.assertEqual(never_out(shelf), sorted(shelf.catalogue()))
        side = Shelf(list("abcdefgh"), ["c", "a", "d", "b", "f", "h", "e", "g"])
        self.assertEqual([fewest_out(side), len(least_outs(side)), always_out(side), never_out(side)], [2, 16, [], []])


class SortableRuns(unittest.TestCase):
    def test_sortable_runs(self):
        for shelf in many_shelves():
            right = [run for run in slow_runs(shelf)
                     if sortable(slow_cut(shelf, [book for book in shelf.row() if book not in run]))]
            wanted = [run for run in right if not any(set(run) < set(other) for other in right)]
            self.assertTrue(same(sortable_runs(shelf), wanted))

    def test_edges(self):
        self.assertEqual([sortable_runs(ONE), sortable_runs(WILD), sortable_runs(CAB)], [[], [], [tuple(ABC)]])
        for shelf in shelves_of_twelve()[:2]:
            self.assertEqual(sortable_runs(shelf), [tuple(shelf.catalogue())])
        mixed = Shelf(list("abcdefgh"), ["b", "a", "d", "f", "c", "e", "h", "g"])
        self.assertEqual(sortable_runs(mixed), [("a", "b"), ("g", "h")])
