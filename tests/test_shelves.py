"""Points [10] to [16]: books, catalogues, shelves, and what shelves become."""

import itertools
import unittest

from runturns import errors, shelves
from runturns.shelves import Shelf, changed, changed_by, cut_to, entry_of, exchanged, flipped, is_book, is_catalogue
from runturns.shelves import mirrored, place_of, ranks, renamed, shelf_at, shelf_number, sorted_shelf
from tests.helpers import ABC, DCBA, FITTING, MIXED, TWELVE, Arguments, WrongArguments, any_objects
from tests.helpers import are_changes_by_form, book_is_right, books_are_right, catalogue_is_right, check_error
from tests.helpers import count_is_right, fits_cab, is_shelf, names_of_parameters, same, shelves_of, some_shelves

CAB = Shelf(ABC, ["c", "a", "b"])
ONE = Shelf(["z"], ["z"])
INTERFACE = {
    "is_book": ["value"], "is_catalogue": ["value"], "Shelf": ["catalogue", "row"], "ranks": ["shelf"],
    "place_of": ["shelf", "book"], "entry_of": ["shelf", "book"], "sorted_shelf": ["catalogue"],
    "changed": ["shelf", "change"], "changed_by": ["shelf", "changes"], "mirrored": ["shelf"], "flipped": ["shelf"],
    "exchanged": ["shelf"], "renamed": ["shelf", "names"], "cut_to": ["shelf", "books"],
    "shelf_at": ["catalogue", "number"], "shelf_number": ["shelf"]}


def is_row_of_abc(value):
    return books_are_right(ABC, 3)(value)


def is_one_of_abc(value):
    return type(value) is str and value in ABC


def are_names_of_abc(value):
    if type(value) is not dict or not same(sorted(map(repr, value)), ["'a'", "'b'", "'c'"]):
        return False
    return catalogue_is_right(list(value.values()))


ARGUMENTS = [
    Arguments(Shelf, (ABC, errors.InvalidCatalogue, catalogue_is_right), (ABC, errors.InvalidRow, is_row_of_abc)),
    Arguments(ranks, (CAB, errors.InvalidShelf, is_shelf)),
    Arguments(place_of, (CAB, errors.InvalidShelf, is_shelf), ("a", errors.InvalidBook, is_one_of_abc)),
    Arguments(entry_of, (CAB, errors.InvalidShelf, is_shelf), ("a", errors.InvalidBook, is_one_of_abc)),
    Arguments(sorted_shelf, (ABC, errors.InvalidCatalogue, catalogue_is_right)),
    Arguments(changed, (CAB, errors.InvalidShelf, is_shelf), (("out", "a"), errors.InvalidChange, fits_cab)),
    Arguments(changed_by, (CAB, errors.InvalidShelf, is_shelf), ([], errors.InvalidChanges, are_changes_by_form)),
    Arguments(mirrored, (CAB, errors.InvalidShelf, is_shelf)),
    Arguments(flipped, (CAB, errors.InvalidShelf, is_shelf)),
    Arguments(exchanged, (CAB, errors.InvalidShelf, is_shelf)),
    Arguments(renamed, (CAB, errors.InvalidShelf, is_shelf),
              ({"a": "b", "b": "a", "c": "z"}, errors.InvalidNames, are_names_of_abc)),
    Arguments(cut_to, (CAB, errors.InvalidShelf, is_shelf), (["a"], errors.InvalidBooks, books_are_right(ABC, 1))),
    Arguments(shelf_at, (ABC, errors.InvalidCatalogue, catalogue_is_right),
              (0, errors.InvalidCount, count_is_right(0, 6))),
    Arguments(shelf_number, (CAB, errors.InvalidShelf, is_shelf)),
]


class WrongInputs(WrongArguments, unittest.TestCase):
    told = ARGUMENTS

    def test_each_function_with_an_error_is_there(self):
        self.assertEqual(len(ARGUMENTS) + 2, len(INTERFACE))


class Interface(unittest.TestCase):
    def test_names_and_arguments(self):
        for name, arguments in INTERFACE.items():
            self.assertEqual(names_of_parameters(getattr(shelves, name)), arguments, name)
            self.assertEqual(getattr(shelves, name).__module__, "runturns.shelves", name)

    def test_methods_stand_in_the_class_itself(self):
        for name in ("catalogue", "row", "__eq__"):
            self.assertIn(name, vars(Shelf))

    def test_by_the_names_of_the_interface(self):
        shelf = Shelf(row=["c", "a", "b"], catalogue=ABC)
        self.assertEqual(shelf, CAB)
        self.assertEqual([is_book(value="a"), is_catalogue(value=ABC), ranks(shelf=shelf)], [True, True, [2, 0, 1]])
        self.assertEqual([place_of(book="b", shelf=shelf), entry_of(book="c", shelf=shelf)], [2, 2])
        self.assertEqual(sorted_shelf(catalogue=ABC), Shelf(ABC, ABC))
        self.assertEqual(changed(change=("out", "a"), shelf=shelf).row(), ["c", "b"])
        self.assertEqual(changed_by(changes=[("out", "a")], shelf=shelf).row(), ["c", "b"])
        self.assertEqual([mirrored(shelf=shelf).row(), exchanged(shelf=shelf).row()], [["b", "a", "c"], ABC])
        self.assertEqual([flipped(shelf=shelf).row(), cut_to(books=["a"], shelf=shelf).row()], [["c", "a", "b"], ["a"]])
        self.assertEqual(renamed(names={"a": "x", "b": "y", "c": "z"}, shelf=shelf).row(), ["z", "x", "y"])
        self.assertEqual([shelf_at(number=4, catalogue=ABC).row(), shelf_number(shelf=shelf)], [["c", "a", "b"], 4])


class Books(unittest.TestCase):
    def test_is_book_with_any_object(self):
        for value in any_objects():
            self.assertIs(is_book(value), book_is_right(value), repr(value))

    def test_is_book_at_the_edges(self):
        right = ["a", "z", "az", "abcdefgh", "zzzzzzzz"]
        wrong = ["", "abcdefghi", "A", "aZ", "a`", "a{", "a ", " a", "a\n", "1", "a-b", "_"]
        self.assertEqual([is_book(value) for value in right], [True] * len(right))
        self.assertEqual([is_book(value) for value in wrong], [False] * len(wrong))

    def test_is_catalogue_with_any_object(self):
        for value in any_objects():
            self.assertIs(is_catalogue(value), catalogue_is_right(value), repr(value))

    def test_is_catalogue_at_the_edges(self):
        right = [["a"], ["b", "a"], MIXED, TWELVE]
        wrong = [[], ("a", "b"), ["a", "b", "a"], ["a", "A"], ["a", ""], ["a", "abcdefghi"], ["a", None], "ab",
                 {"a": 1}]
        self.assertEqual([is_catalogue(value) for value in right], [True] * len(right))
        self.assertEqual([is_catalogue(value) for value in wrong], [False] * len(wrong))


class Shelves(unittest.TestCase):
    def test_catalogue_and_row(self):
        for catalogue in (["q"], ["b", "a"], ABC, DCBA, MIXED):
            for row in itertools.permutations(catalogue):
                shelf = Shelf(catalogue, list(row))
                self.assertTrue(same([shelf.catalogue(), shelf.row()], [catalogue, list(row)]))

    def test_rows_that_are_none(self):
        wrong = [["fig"], MIXED[:4], MIXED + ["x"], MIXED[:4] + ["fig"], MIXED + ["fig"], MIXED[:4] + ["x"],
                 tuple(MIXED), MIXED[:4] + [None], []]
        for row in wrong:
            check_error(self, Shelf, [MIXED, row], errors.InvalidRow, row)

    def test_equal_exactly_if_both_are(self):
        all_of_them = shelves_of(ABC) + shelves_of(["b", "a", "c"]) + shelves_of(["b", "a"]) + shelves_of(["a", "b"])
        for one, other in itertools.product(all_of_them, repeat=2):
            alike = one.catalogue() == other.catalogue() and one.row() == other.row()
            self.assertIs(one == other, alike)
            self.assertIs(one != other, not alike)
        self.assertTrue(Shelf(list(TWELVE), TWELVE[::-1]) == Shelf(TWELVE, TWELVE[::-1]))

    def test_never_equal_to_another_object(self):
        for value in [(ABC, ["c", "a", "b"]), [ABC, ["c", "a", "b"]]] + any_objects():
            if type(value) is not Shelf:
                self.assertIs(CAB == value, False)
                self.assertIs(value == CAB, False)

    def test_lists_passed_or_returned_are_free(self):
        catalogue, row = ["b", "a", "c"], ["a", "b", "c"]
        shelf = Shelf(catalogue, row)
        catalogue.reverse()
        row.append("x")
        self.assertEqual([shelf.catalogue(), shelf.row()], [["b", "a", "c"], ["a", "b", "c"]])
        shelf.catalogue().clear()
        shelf.row().reverse()
        self.assertEqual([shelf.catalogue(), shelf.row(), ranks(shelf)], [["b", "a", "c"], ["a", "b", "c"], [1, 0, 2]])
        twice = ["b", "a"]
        shelf = Shelf(twice, twice)
        twice[0] = "x"
        shelf.catalogue().append("y")
        self.assertEqual([shelf.catalogue(), shelf.row()], [["b", "a"], ["b", "a"]])

    def test_ranks_places_and_entries(self):
        for shelf in some_shelves():
            entries = [shelf.catalogue().index(book) for book in shelf.row()]
            self.assertTrue(same(ranks(shelf), entries))
            self.assertEqual([shelf.catalogue()[entry] for entry in entries], shelf.row())
            for place, book in enumerate(shelf.row()):
                self.assertTrue(same([place_of(shelf, book), entry_of(shelf, book)], [place, entries[place]]))

    def test_ranks_are_new_each_time(self):
        ranks(CAB).clear()
        self.assertEqual(ranks(CAB), [2, 0, 1])

    def test_sorted_shelf(self):
        for catalogue in (["q"], ["b", "a"], DCBA, MIXED, TWELVE):
            shelf = sorted_shelf(catalogue)
            self.assertTrue(same([shelf.catalogue(), shelf.row()], [catalogue, catalogue]))
        passed = ["b", "a"]
        shelf = sorted_shelf(passed)
        passed.append("c")
        self.assertEqual([shelf.catalogue(), shelf.row()], [["b", "a"], ["b", "a"]])


class Changes(unittest.TestCase):
    def check(self, shelf, change, catalogue, row):
        made = changed(shelf, change)
        self.assertTrue(same([made.catalogue(), made.row()], [catalogue, row]), change)
        self.assertTrue(same(changed_by(shelf, [change]), made))

    def test_put_at_each_entry_and_place(self):
        for shelf in [ONE, CAB, Shelf(DCBA, ABC + ["d"])]:
            many = len(shelf.row())
            for entry, place in itertools.product(range(many + 1), repeat=2):
                made = changed(shelf, ("put", "x", entry, place))
                self.assertEqual([entry_of(made, "x"), place_of(made, "x")], [entry, place])
                self.assertEqual(changed(made, ("out", "x")), shelf)

    def test_out(self):
        self.check(CAB, ("out", "c"), ["a", "b"], ["a", "b"])
        self.check(Shelf(["b", "a"], ["a", "b"]), ("out", "a"), ["b"], ["b"])

    def test_move_and_list_to_each_other_place(self):
        shelf = Shelf(MIXED, ["fig", "pear", "mango", "zz", "apple"])
        for book, at in itertools.product(MIXED, range(5)):
            for word, order, where in (("move", shelf.row(), place_of), ("list", MIXED, entry_of)):
                change = (word, book, at)
                if order[at] == book:
                    check_error(self, changed, [shelf, change], errors.InvalidChange, change)
                else:
                    made = changed(shelf, change)
                    self.assertEqual(where(made, book), at)
                    rest = [other for other in MIXED if other != book]
                    self.assertEqual(cut_to(made, rest), cut_to(shelf, rest))
                    kept = made.catalogue() == MIXED if word == "move" else made.row() == shelf.row()
                    self.assertTrue(kept)

    def test_move_and_list(self):
        shelf = Shelf(["d", "a", "c", "b"], ["a", "b", "c", "d"])
        self.check(shelf, ("move", "a", 2), ["d", "a", "c", "b"], ["b", "c", "a", "d"])
        self.check(shelf, ("move", "d", 0), ["d", "a", "c", "b"], ["d", "a", "b", "c"])
        self.check(shelf, ("list", "d", 3), ["a", "c", "b", "d"], ["a", "b", "c", "d"])
        self.check(shelf, ("list", "b", 1), ["d", "b", "a", "c"], ["a", "b", "c", "d"])

    def test_what_does_not_fit(self):
        wrong = [(CAB, ("put", "a", 0, 0)), (CAB, ("put", "x", 4, 0)), (CAB, ("put", "x", 0, 4)), (CAB, ("out", "x")),
                 (ONE, ("out", "z")), (ONE, ("out", "a")), (CAB, ("move", "x", 0)), (CAB, ("move", "a", 3)),
                 (CAB, ("move", "a", 1)), (ONE, ("move", "z", 0)), (ONE, ("move", "z", 1)), (CAB, ("list", "x", 0)),
                 (CAB, ("list", "a", 3)), (CAB, ("list", "a", 0)), (ONE, ("list", "z", 0)), (ONE, ("put", "y", 2, 0))]
        for shelf, change in wrong:
            check_error(self, changed, [shelf, change], errors.InvalidChange, change)
            check_error(self, changed_by, [shelf, [change, ("out", "zzzz")]], errors.InvalidChange, change)

    def test_one_after_the_other(self):
        self.assertTrue(same(changed_by(CAB, []), CAB))
        changes = [("put", "x", 1, 3), ("out", "a"), ("move", "x", 0), ("list", "x", 2), ("out", "c")]
        made = changed_by(shelf=CAB, changes=changes)
        self.assertTrue(same([made.catalogue(), made.row()], [["b", "x"], ["x", "b"]]))
        self.assertEqual(len(changes), 5)

    def test_first_that_does_not_fit_what_those_ahead_made(self):
        out, again = ("out", "a"), ("out", "a")
        changes = [out, ("put", "a", 0, 0), again, ("put", "b", 0, 0), ("out", "x")]
        check_error(self, changed_by, [CAB, changes], errors.InvalidChange, changes[3])
        changes = [("out", "a"), ("move", "c", 2), ("out", "zz")]
        check_error(self, changed_by, [CAB, changes], errors.InvalidChange, changes[1])
        changes = [("put", "x", 4, 4), ("put", "y", 4, 4)]
        check_error(self, changed_by, [CAB, changes], errors.InvalidChange, changes[0])
        changes = [("put", "x", 3, 3), ("put", "y", 4, 5)]
        check_error(self, changed_by, [CAB, changes], errors.InvalidChange, changes[1])
        self.assertEqual(changed_by(CAB, [("put", "x", 3, 3), ("put", "y", 4, 4)]).row(), ["c", "a", "b", "x", "y"])

    def test_forms_are_judged_ahead_of_what_fits(self):
        changes = [("out", "x"), ("out", "a"), ["out", "b"]]
        check_error(self, changed_by, [CAB, changes], errors.InvalidChanges, changes)
        changes = (("out", "a"),)
        check_error(self, changed_by, [CAB, changes], errors.InvalidChanges, changes)

    def test_the_shelf_stays_as_it_was(self):
        shelf = Shelf(ABC, ["c", "a", "b"])
        for change in FITTING:
            changed(shelf, change)
            changed_by(shelf, [change])
            self.assertTrue(same(shelf, CAB))


class Turned(unittest.TestCase):
    def test_mirrored_flipped_exchanged(self):
        for shelf in some_shelves():
            catalogue, row = shelf.catalogue(), shelf.row()
            self.assertTrue(same(mirrored(shelf), Shelf(catalogue, row[::-1])))
            self.assertTrue(same(flipped(shelf), Shelf(catalogue[::-1], row)))
            self.assertTrue(same(exchanged(shelf), Shelf(row, catalogue)))
            for turned in (mirrored, flipped, exchanged):
                self.assertEqual(turned(turned(shelf)), shelf)

    def test_renamed(self):
        names = {"mango": "a", "zz": "fig", "pear": "zz", "fig": "pear", "apple": "abcdefgh"}
        shelf = Shelf(MIXED, ["fig", "mango", "pear", "zz", "apple"])
        made = renamed(shelf, names)
        self.assertTrue(same(made.catalogue(), ["zz", "pear", "fig", "abcdefgh", "a"]))
        self.assertTrue(same(made.row(), ["pear", "a", "zz", "fig", "abcdefgh"]))
        self.assertEqual(ranks(made), ranks(shelf))
        names["mango"] = "b"
        self.assertEqual(made.row()[1], "a")
        self.assertEqual(renamed(ONE, {"z": "z"}), ONE)
        self.assertEqual(renamed(ONE, {"z": "y"}), Shelf(["y"], ["y"]))

    def test_names_that_are_none(self):
        shelf = Shelf(["a", "b"], ["b", "a"])
        wrong = [{"a": "x"}, {"a": "x", "b": "x"}, {"a": "x", "b": "y", "c": "z"}, {"a": "x", "c": "y"},
                 {"a": "x", "b": "Y"}, {"a": "x", "b": ""}, {"a": "x", "b": ("y",)}, {"a": "x", ("b",): "y"},
                 {"a": "x", True: "y"}, [("a", "x"), ("b", "y")], ["a", "b"], {}]
        for names in wrong:
            check_error(self, renamed, [shelf, names], errors.InvalidNames, names)

    def test_cut_to_each_lot_of_books(self):
        shelf = Shelf(MIXED, ["fig", "mango", "pear", "zz", "apple"])
        for size in range(1, 6):
            for books in itertools.permutations(MIXED, size):
                made = cut_to(shelf, list(books))
                self.assertEqual(made.catalogue(), [book for book in MIXED if book in books])
                self.assertEqual(made.row(), [book for book in shelf.row() if book in books])
        self.assertTrue(same(cut_to(ONE, ["z"]), ONE))

    def test_books_to_cut_to_that_are_wrong(self):
        for books in ([], ["a", "a"], ["x"], ["a", "x"], ("a",), "a", {"a": 1}, ["a", ("b",)], [["a"]], ["a", True]):
            check_error(self, cut_to, [CAB, books], errors.InvalidBooks, books)

    def test_books_passed_stay_free(self):
        books = ["b", "a"]
        made = cut_to(CAB, books)
        books.append("c")
        self.assertEqual([made.catalogue(), made.row()], [["a", "b"], ["a", "b"]])


class Numbers(unittest.TestCase):
    def test_ascending_by_ranks(self):
        for catalogue in (["q"], ["b", "a"], ABC, DCBA, MIXED):
            by_ranks = sorted(shelves_of(catalogue), key=ranks)
            for number, shelf in enumerate(by_ranks):
                self.assertTrue(same(shelf_at(catalogue, number), shelf))
                self.assertTrue(same(shelf_number(shelf), number))

    def test_the_last_one_and_one_beyond(self):
        for catalogue, many in ((["q"], 1), (["b", "a"], 2), (DCBA, 24), (MIXED, 120), (TWELVE, 479001600)):
            self.assertEqual(shelf_at(catalogue, 0), Shelf(catalogue, catalogue))
            self.assertEqual(shelf_at(catalogue, many - 1), Shelf(catalogue, catalogue[::-1]))
            self.assertEqual(shelf_number(Shelf(catalogue, catalogue[::-1])), many - 1)
            for number in (many, many + 1, -1, 10 ** 29, True, False, None, "0", [0], (0,)):
                check_error(self, shelf_at, [catalogue, number], errors.InvalidCount, number)

    def test_of_twelve(self):
        for number in (1, 2, 39916799, 39916800, 123456789, 479001598):
            shelf = shelf_at(TWELVE, number)
            self.assertEqual(shelf_number(shelf), number)
        self.assertEqual(shelf_at(TWELVE, 39916800).row(), [TWELVE[1], TWELVE[0]] + TWELVE[2:])

    def test_the_catalogue_passed_stays(self):
        catalogue = ["b", "a", "c"]
        shelf = shelf_at(catalogue, 3)
        self.assertEqual(catalogue, ["b", "a", "c"])
        catalogue.pop()
        self.assertEqual([shelf.catalogue(), shelf.row()], [["b", "a", "c"], ["a", "c", "b"]])
