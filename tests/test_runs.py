"""Points [17] to [22]: runs, where they stand, what turns them about, and how they overlap."""

import itertools
import unittest

from runturns import errors, runs
from runturns.runs import all_runs, is_run, least_run, meet_of, overlap, overlapping, rests_of, run_at, run_entry
from runturns.runs import run_place, run_turned, union_of
from runturns.shelves import Shelf, exchanged, flipped, mirrored
from tests.helpers import ABC, DCBA, MIXED, TWELVE, Arguments, WrongArguments, any_objects, books_are_right
from tests.helpers import check_error, count_is_right, is_shelf, names_of_parameters, runs_by_entries, same
from tests.helpers import shelves_of, some_shelves

# Its runs are ("a", "b") and ("a", "b", "c").
CAB = Shelf(ABC, ["c", "a", "b"])
PLAIN = Shelf(ABC, ["a", "b", "c"])
ONE = Shelf(["z"], ["z"])
BY_TWELVE = Shelf(TWELVE, TWELVE[3::-1] + TWELVE[4:])
INTERFACE = {
    "all_runs": ["shelf"], "is_run": ["shelf", "value"], "run_place": ["shelf", "run"], "run_entry": ["shelf", "run"],
    "run_at": ["shelf", "place", "size"], "run_turned": ["shelf", "run"], "overlap": ["shelf", "one", "other"],
    "overlapping": ["shelf", "run"], "meet_of": ["shelf", "one", "other"], "union_of": ["shelf", "one", "other"],
    "rests_of": ["shelf", "one", "other"], "least_run": ["shelf", "books"]}


def is_run_of(shelf):
    return lambda value: any(same(value, run) for run in runs_by_entries(shelf))


def is_run_that_overlaps_ab(value):
    return same(value, ("b", "c"))


SHELF = (CAB, errors.InvalidShelf, is_shelf)
PLAIN_SHELF = (PLAIN, errors.InvalidShelf, is_shelf)
RUN = (("a", "b"), errors.InvalidRun, is_run_of(CAB))
AB = (("a", "b"), errors.InvalidRun, is_run_of(PLAIN))
OTHER = (("b", "c"), errors.InvalidRun, is_run_that_overlaps_ab)
ARGUMENTS = [
    Arguments(all_runs, SHELF),
    Arguments(is_run, SHELF, (("a", "b"), None, None)),
    Arguments(run_place, SHELF, RUN),
    Arguments(run_entry, SHELF, RUN),
    Arguments(run_at, SHELF, (1, errors.InvalidCount, count_is_right(0, 3)),
              (2, errors.InvalidCount, count_is_right(2, 3))),
    Arguments(run_turned, SHELF, RUN),
    Arguments(overlap, SHELF, RUN, (("a", "b", "c"), errors.InvalidRun, is_run_of(CAB))),
    Arguments(overlapping, SHELF, RUN),
    Arguments(meet_of, PLAIN_SHELF, AB, OTHER),
    Arguments(union_of, PLAIN_SHELF, AB, OTHER),
    Arguments(rests_of, PLAIN_SHELF, AB, OTHER),
    Arguments(least_run, SHELF, (["a", "b"], errors.InvalidBooks, books_are_right(ABC, 2))),
]


class WrongInputs(WrongArguments, unittest.TestCase):
    told = ARGUMENTS

    def test_each_function_is_there(self):
        self.assertEqual([told.function.__name__ for told in ARGUMENTS], list(INTERFACE))

    def test_is_run_judges_no_shelf(self):
        for value in any_objects():
            if type(value) is not Shelf:
                check_error(self, is_run, [value, ("a", "b")], errors.InvalidShelf, value)
                check_error(self, is_run, [value, None], errors.InvalidShelf, value)


class Interface(unittest.TestCase):
    def test_names_and_arguments(self):
        for name, arguments in INTERFACE.items():
            self.assertEqual(names_of_parameters(getattr(runs, name)), arguments, name)
            self.assertEqual(getattr(runs, name).__module__, "runturns.runs", name)

    def test_by_the_names_of_the_interface(self):
        run, one, other = ("a", "b"), ("a", "b"), ("b", "c")
        self.assertEqual([all_runs(shelf=CAB), is_run(value=run, shelf=CAB)], [[run, ("a", "b", "c")], True])
        self.assertEqual([run_place(run=run, shelf=CAB), run_entry(run=run, shelf=CAB)], [(1, 2), 0])
        self.assertEqual([run_at(size=2, place=1, shelf=CAB), run_turned(run=run, shelf=CAB).row()],
                         [run, ["c", "b", "a"]])
        self.assertEqual([overlap(other=other, one=one, shelf=PLAIN), overlapping(run=run, shelf=PLAIN)],
                         [True, [other]])
        self.assertEqual([meet_of(other=other, one=one, shelf=PLAIN), union_of(other=other, one=one, shelf=PLAIN)],
                         [("b",), ("a", "b", "c")])
        self.assertEqual([rests_of(other=other, one=one, shelf=PLAIN), least_run(books=["a", "b"], shelf=CAB)],
                         [[("a",), ("c",)], ("a", "b")])


class Runs(unittest.TestCase):
    def test_all_runs(self):
        for shelf in some_shelves():
            self.assertTrue(same(all_runs(shelf), runs_by_entries(shelf)))

    def test_one_book_and_two(self):
        self.assertEqual(all_runs(ONE), [])
        for row in (["a", "b"], ["b", "a"]):
            self.assertEqual(all_runs(Shelf(["b", "a"], row)), [("b", "a")])

    def test_named_in_the_order_of_the_catalogue_listed_in_that_of_letters(self):
        shelf = Shelf(["d", "b", "c", "a"], ["a", "d", "b", "c"])
        self.assertEqual(all_runs(shelf), [("b", "c"), ("d", "b"), ("d", "b", "c"), ("d", "b", "c", "a")])
        shelf = Shelf(["b", "ab", "a"], ["ab", "b", "a"])
        self.assertEqual(all_runs(shelf), [("b", "ab"), ("b", "ab", "a")])

    def test_most_runs_just_for_the_catalogue_and_its_contrary(self):
        for shelf in some_shelves():
            many = len(shelf.row())
            most = shelf.row() in (shelf.catalogue(), shelf.catalogue()[::-1])
            self.assertEqual(len(all_runs(shelf)) == many * (many - 1) // 2, most)
            self.assertEqual(tuple(shelf.catalogue()) in all_runs(shelf), many > 1)

    def test_the_same_lots_mirrored_flipped_exchanged(self):
        for shelf in some_shelves():
            lots = sorted(sorted(run) for run in all_runs(shelf))
            for other in (mirrored(shelf), flipped(shelf), exchanged(shelf)):
                self.assertEqual(sorted(sorted(run) for run in all_runs(other)), lots)

    def test_lists_returned_are_free(self):
        all_runs(CAB).clear()
        self.assertEqual(all_runs(CAB), [("a", "b"), ("a", "b", "c")])
        overlapping(PLAIN, ("a", "b")).append(("c", "d"))
        self.assertEqual(overlapping(PLAIN, ("a", "b")), [("b", "c")])
        rests_of(PLAIN, ("a", "b"), ("b", "c")).reverse()
        self.assertEqual(rests_of(PLAIN, ("a", "b"), ("b", "c")), [("a",), ("c",)])

    def test_is_run_with_any_object(self):
        for shelf in (CAB, PLAIN, ONE, Shelf(["c", "b", "a"], ["b", "a", "c"]), Shelf(DCBA, ["b", "d", "a", "c"])):
            judge = is_run_of(shelf)
            for value in any_objects():
                self.assertIs(is_run(shelf, value), judge(value), repr(value))

    def test_is_run_with_each_lot_of_books(self):
        for shelf in shelves_of(["d", "b", "a", "c"]):
            listed = runs_by_entries(shelf)
            for size in range(5):
                for books in itertools.permutations(["a", "b", "c", "d"], size):
                    self.assertIs(is_run(shelf, books), books in listed)
                    self.assertIs(is_run(shelf, list(books)), False)
                    self.assertIs(is_run(shelf, "".join(books)), False)


class Places(unittest.TestCase):
    def test_place_and_entry_of_each_run(self):
        for shelf in some_shelves():
            for run in runs_by_entries(shelf):
                place, size = run_place(shelf, run)
                self.assertTrue(same(run_place(shelf, run), (place, len(run))))
                self.assertEqual(sorted(shelf.row()[place:place + size]), sorted(run))
                entry = run_entry(shelf, run)
                self.assertTrue(same(tuple(shelf.catalogue()[entry:entry + len(run)]), run))
                self.assertTrue(same(run_at(shelf, place, size), run))

    def test_at_the_ends_of_the_row(self):
        shelf = Shelf(MIXED, ["fig", "pear", "zz", "mango", "apple"])
        self.assertEqual(all_runs(shelf), sorted([
            ("pear", "fig"), ("pear", "fig", "zz"), tuple(MIXED), ("apple", "mango"), ("zz", "apple", "mango")]))
        self.assertEqual(run_place(shelf, ("pear", "fig")), (0, 2))
        self.assertEqual(run_place(shelf, ("apple", "mango")), (3, 2))
        self.assertEqual(run_place(shelf, tuple(MIXED)), (0, 5))
        self.assertEqual([run_entry(shelf, run) for run in (("pear", "fig"), ("apple", "mango"), tuple(MIXED))],
                         [0, 3, 0])
        self.assertEqual([run_at(shelf, 0, 5), run_at(shelf, 3, 2), run_at(shelf, 1, 4), run_at(shelf, 1, 2)],
                         [tuple(MIXED), ("apple", "mango"), None, None])

    def test_each_stretch(self):
        for shelf in some_shelves():
            many, listed = len(shelf.row()), {frozenset(run): run for run in runs_by_entries(shelf)}
            for place in range(many):
                for size in range(2, many - place + 1):
                    books = frozenset(shelf.row()[place:place + size])
                    self.assertTrue(same(run_at(shelf, place, size), listed.get(books)))

    def test_places_and_sizes_that_are_wrong(self):
        for shelf in (ONE, Shelf(["b", "a"], ["a", "b"]), CAB, BY_TWELVE):
            many = len(shelf.row())
            for place in (many, many + 1, -1, True, False, None, "0", (0,)):
                for size in (2, 0, None):
                    check_error(self, run_at, [shelf, place, size], errors.InvalidCount, place)
            for place in range(many):
                for size in (many - place + 1, many + 5, 0, 1, -1, True, False, None, "2", [2]):
                    check_error(self, run_at, [shelf, place, size], errors.InvalidCount, size)


class Turning(unittest.TestCase):
    def test_turned_and_turned_once_more(self):
        for shelf in some_shelves():
            before = [shelf.catalogue(), shelf.row()]
            for run in runs_by_entries(shelf):
                turned = run_turned(shelf, run)
                place = shelf.row().index([book for book in shelf.row() if book in run][0])
                end = place + len(run)
                row = shelf.row()[:place] + list(reversed(shelf.row()[place:end])) + shelf.row()[end:]
                self.assertTrue(same(turned, Shelf(shelf.catalogue(), row)))
                self.assertTrue(same(run_turned(turned, run), shelf))
                self.assertTrue(same([shelf.catalogue(), shelf.row()], before))

    def test_just_the_runs_that_overlap_are_lost(self):
        for shelf in some_shelves():
            for run in runs_by_entries(shelf):
                after = all_runs(run_turned(shelf, run))
                lost = [other for other in all_runs(shelf) if other not in after]
                self.assertEqual(lost, overlapping(shelf, run))

    def test_the_whole_row_and_the_ends(self):
        shelf = Shelf(DCBA, ["c", "d", "b", "a"])
        self.assertEqual(run_turned(shelf, tuple(DCBA)).row(), ["a", "b", "d", "c"])
        self.assertEqual(run_turned(shelf, ("d", "c")).row(), ["d", "c", "b", "a"])
        self.assertEqual(run_turned(shelf, ("b", "a")).row(), ["c", "d", "a", "b"])


class Overlaps(unittest.TestCase):
    def test_each_two_runs(self):
        for shelf in some_shelves():
            listed = runs_by_entries(shelf)
            for one in listed:
                lapped = []
                for other in listed:
                    first, second = set(one), set(other)
                    wanted = bool(first & second and first - second and second - first)
                    self.assertIs(overlap(shelf, one, other), wanted)
                    if wanted:
                        lapped.append(other)
                self.assertTrue(same(overlapping(shelf, one), lapped))

    def test_meet_union_and_rests(self):
        for shelf in some_shelves():
            for one in runs_by_entries(shelf):
                for other in overlapping(shelf, one):
                    self.check_lots(shelf, one, other)

    def check_lots(self, shelf, one, other):
        first, second = set(one), set(other)
        lots = [first & second, first | second, first - second, second - first]
        told = [tuple(book for book in shelf.catalogue() if book in lot) for lot in lots]
        self.assertTrue(same(meet_of(shelf, one, other), told[0]))
        self.assertTrue(same(union_of(shelf, one, other), told[1]))
        self.assertTrue(same(rests_of(shelf, one, other), told[2:]))
        for lot in told:
            self.assertTrue(len(lot) == 1 or lot in all_runs(shelf))

    def test_in_the_order_of_the_catalogue(self):
        shelf = Shelf(DCBA, ["a", "b", "c", "d"])
        for one, other, rests in ((("d", "c", "b"), ("b", "a"), [("d", "c"), ("a",)]),
                                  (("b", "a"), ("d", "c", "b"), [("a",), ("d", "c")])):
            self.assertEqual(meet_of(shelf, one, other), ("b",))
            self.assertEqual(union_of(shelf, one, other), ("d", "c", "b", "a"))
            self.assertEqual(rests_of(shelf, one, other), rests)

    def test_two_runs_that_do_not_overlap(self):
        shelf = Shelf(DCBA, ["a", "b", "c", "d"])
        for function in (meet_of, union_of, rests_of):
            for one, other in ((("d", "c"), ("b", "a")), (("d", "c"), ("d", "c", "b")), (("d", "c", "b"), ("d", "c")),
                               (("c", "b"), ("c", "b")), (tuple(DCBA), ("c", "b"))):
                self.assertIs(overlap(shelf, one, other), False)
                check_error(self, function, [shelf, one, other], errors.InvalidRun, other)

    def test_of_one_run_alone_the_first_is_told_first(self):
        for function in (overlap, meet_of, union_of, rests_of):
            one, other = ("b", "c"), ("b", "c")
            check_error(self, function, [CAB, one, other], errors.InvalidRun, one)
            check_error(self, function, [CAB, ("a", "b"), other], errors.InvalidRun, other)


class LeastRun(unittest.TestCase):
    def test_lies_in_each_run_that_has_the_books(self):
        for shelf in some_shelves():
            most = 5 if len(shelf.row()) < 6 else 2
            for size in range(2, most + 1):
                for books in itertools.permutations(shelf.row(), size):
                    self.check_least(shelf, list(books))

    def check_least(self, shelf, books):
        around = [run for run in runs_by_entries(shelf) if set(books) <= set(run)]
        run = least_run(shelf, books)
        self.assertIs(type(run), tuple)
        self.assertIn(run, around)
        self.assertTrue(all(set(run) <= set(other) for other in around))

    def test_of_twelve(self):
        first, last = TWELVE[0], TWELVE[11]
        self.assertEqual(least_run(BY_TWELVE, [last, first]), tuple(TWELVE))
        self.assertEqual(least_run(BY_TWELVE, [TWELVE[3], TWELVE[2]]), tuple(TWELVE[2:4]))
        self.assertEqual(least_run(BY_TWELVE, [TWELVE[4], TWELVE[2]]), tuple(TWELVE[:5]))
        self.assertEqual(least_run(BY_TWELVE, list(TWELVE)), tuple(TWELVE))

    def test_books_that_are_wrong(self):
        for books in ([], ["a"], ["a", "a"], ["a", "x"], ("a", "b"), "ab", {"a": 1, "b": 2}, ["a", "b", "a"],
                      ["a", ["b"]], ["a", None], None):
            check_error(self, least_run, [CAB, books], errors.InvalidBooks, books)
        for books in (["z"], [], ["z", "z"]):
            check_error(self, least_run, [ONE, books], errors.InvalidBooks, books)

    def test_books_passed_stay(self):
        books = ["b", "a"]
        least_run(CAB, books)
        self.assertEqual(books, ["b", "a"])
