"""Tests that hold for every function: of calls with right arguments, and of two shelves that do not go together."""

import copy
import itertools

from runturns import errors
from runturns.between import middle, shelves_between
from runturns.catalogues import common_shelf
from runturns.changes import lot_shelf, put_for
from runturns.hall import Hall
from runturns.homes import awry_runs, home_of
from runturns.lots import met, shelf_of
from runturns.numbers import class_place, class_shelf
from runturns.papers import read_shelf, shelf_text
from runturns.prices import meeting_shelf
from runturns.runs import all_runs, run_turned
from runturns.scripts import end_of
from runturns.shelves import Shelf, changed, changed_by, exchanged, flipped, mirrored, renamed, shelf_at, shelf_number
from runturns.ways import led
from tests.helpers import any_objects, check_error, names_of_parameters, same


def spoil(value):
    """Change all lists and dictionaries of a value, those within first."""
    if isinstance(value, (list, tuple)):
        for inner in list(value):
            spoil(inner)
    if isinstance(value, dict):
        for inner in list(value.values()):
            spoil(inner)
        value.clear()
        value["spoilt"] = []
    if isinstance(value, list):
        value.reverse()
        value.append("spoilt")
    if isinstance(value, Shelf):
        value.catalogue().clear()
        value.row().reverse()
    if isinstance(value, Hall):
        value.barred().append("spoilt")
        value.log().reverse()
        for spot in value.spots():
            value.take(spot)


def renamed_and_back(shelf):
    names = {book: "x" + "abcdefghijkl"[at] for at, book in enumerate(shelf.catalogue())}
    return renamed(renamed(shelf, names), {name: book for book, name in names.items()})


def turned_and_back(shelf):
    run = all_runs(shelf)[:1]
    return run_turned(run_turned(shelf, run[0]), run[0]) if run else shelf


def led_in_a_hall(shelf):
    hall = Hall(shelf.catalogue())
    spot = hall.put(home_of(shelf))
    hall.wish(spot, shelf)
    while hall.left(spot):
        hall.go(spot)
    return hall.shelf(spot)


def led_by_a_script(shelf):
    turns = [("turn", 0, run) for run in awry_runs(shelf)]
    return end_of(shelf.catalogue(), [("put", home_of(shelf))] + turns)[0][0][0]


# Each makes a shelf that is equal to one, in its own way.
MADE_ELSEWHERE = [
    lambda shelf: flipped(flipped(shelf)), lambda shelf: mirrored(mirrored(shelf)),
    lambda shelf: exchanged(exchanged(shelf)), lambda shelf: shelf_at(shelf.catalogue(), shelf_number(shelf)),
    renamed_and_back, lambda shelf: changed_by(changed(shelf, ("put", "qqqqqqqq", 0, 0)), [("out", "qqqqqqqq")]),
    turned_and_back, lambda shelf: shelf_of(shelf, awry_runs(shelf)), lambda shelf: met(shelf, shelf),
    lambda shelf: led(home_of(shelf), awry_runs(shelf)), lambda shelf: led(shelf, all_runs(shelf)[:1] * 2),
    lambda shelf: meeting_shelf([shelf, shelf, home_of(shelf)], {}),
    lambda shelf: class_shelf(shelf, class_place(shelf)), lambda shelf: middle(home_of(shelf), shelf, shelf),
    lambda shelf: shelves_between(shelf, shelf)[0], lambda shelf: common_shelf(shelf, [], awry_runs(shelf)),
    lambda shelf: put_for(shelf, shelf.row()[0], Shelf(shelf.row()[:1], shelf.row()[:1])),
    lambda shelf: lot_shelf(shelf, [("out", "q")], []), lambda shelf: read_shelf(shelf_text(shelf)), led_in_a_hall,
    led_by_a_script]


def with_shelves(value, make):
    """A value, its shelves exchanged by those that a function makes of them."""
    if isinstance(value, Shelf):
        return make(value)
    if isinstance(value, (list, tuple)):
        return type(value)([with_shelves(inner, make) for inner in value])
    return copy.deepcopy(value)


class RightCalls:
    """Tests for a case whose field `calls` lists tuples of a function and the list of its arguments."""

    calls = []

    def each(self):
        for function, arguments in self.calls:
            with self.subTest(function.__name__):
                yield function, copy.deepcopy(arguments)

    def test_by_position_and_by_the_names_of_the_interface(self):
        for function, arguments in self.each():
            named = list(zip(names_of_parameters(function), arguments))
            self.assertTrue(same(function(*arguments), function(**dict(reversed(named)))))

    def test_what_was_passed_stays_as_it_was(self):
        for function, arguments in self.each():
            before = copy.deepcopy(arguments)
            function(*arguments)
            self.assertTrue(same(before, arguments))

    def test_what_was_returned_is_free(self):
        for function, arguments in self.each():
            told = function(*arguments)
            kept = copy.deepcopy(told)
            spoil(told)
            self.assertTrue(same(function(*arguments), kept))

    def test_what_was_passed_is_free(self):
        for function, arguments in self.each():
            told = function(*arguments)
            kept, before = copy.deepcopy(told), copy.deepcopy(arguments)
            spoil(arguments)
            self.assertTrue(same(told, kept))
            self.assertTrue(same(function(*before), kept))

    def test_asked_again_between_others(self):
        first = [function(*copy.deepcopy(arguments)) for function, arguments in self.calls]
        again = [function(*copy.deepcopy(arguments)) for function, arguments in reversed(self.calls)]
        self.assertTrue(same(first, again[::-1]))

    def test_after_calls_that_raise(self):
        for function, arguments in self.each():
            told = function(*arguments)
            for at in range(len(arguments)):
                for wrong in (None, [arguments[at]]):
                    try:
                        function(*arguments[:at], wrong, *arguments[at + 1:])
                    except errors.ShelfError:
                        pass
            self.assertTrue(same(function(*arguments), told))

    def test_shelves_that_were_made_elsewhere(self):
        for function, arguments in self.each():
            told = function(*arguments)
            for make in MADE_ELSEWHERE:
                made = with_shelves(arguments, make)
                self.assertTrue(same(made, arguments))
                self.assertTrue(same(function(*made), told))


class TwoShelves:
    """Tests for a case whose field `pairs` lists tuples of a function, the list of its right arguments, and more.

    The first argument, and the one at the position `other`, are shelves of one catalogue; the arguments at the
    positions `later` are judged behind Unlike. If `apart` is a list, the shelves have to be joined, and the
    arguments at its positions are judged behind Apart.
    """

    pairs = []
    unlike = None
    apart = None

    def wrong_behind(self, arguments, positions):
        """The arguments, with none, some and all of those at some positions wrong."""
        for size in range(len(positions) + 1):
            for some in itertools.combinations(positions, size):
                for wrong in (None, {"a": 1}, ("a",), -1, True):
                    yield [wrong if at in some else value for at, value in enumerate(arguments)]

    def with_other(self, arguments, at, other):
        return arguments[:at] + [other] + arguments[at + 1:]

    def test_unlike(self):
        for function, arguments, other, later, _ in self.pairs:
            with self.subTest(function.__name__):
                one = arguments[0]
                strangers = [self.unlike, Shelf(one.catalogue()[::-1], one.row()), Shelf(["zz"], ["zz"]),
                             changed(one, ("put", "zz", 0, 0)), changed(one, ("out", one.row()[0]))]
                for stranger in strangers:
                    told = self.with_other(arguments, other, stranger)
                    for passed in self.wrong_behind(told, later):
                        check_error(self, function, passed, errors.Unlike, stranger)

    def test_no_shelf_comes_ahead_of_unlike(self):
        for function, arguments, other, _, _ in self.pairs:
            told = self.with_other(arguments, other, self.unlike)
            for wrong in any_objects():
                if type(wrong) is not Shelf:
                    check_error(self, function, [wrong] + told[1:], errors.InvalidShelf, wrong)

    def test_apart(self):
        for function, arguments, other, _, behind in self.pairs:
            told = self.with_other(arguments, other, self.apart)
            if behind is None:
                function(*told)
                continue
            with self.subTest(function.__name__):
                for passed in self.wrong_behind(told, behind):
                    check_error(self, function, passed, errors.Apart, self.apart)

    def test_the_same_object_and_an_equal_one(self):
        for function, arguments, other, _, _ in self.pairs:
            one = arguments[0]
            twin = Shelf(one.catalogue(), one.row())
            try:
                told = function(*self.with_other(arguments, other, one))
            except (errors.InvalidCount, errors.InvalidTurns):
                continue
            self.assertTrue(same(told, function(*self.with_other(arguments, other, twin))))


class Names:
    """Tests for a case with the fields `module` and `interface`, a dictionary from names to parameters."""

    module = None
    interface = {}

    def test_names_and_arguments(self):
        for name, arguments in self.interface.items():
            self.assertEqual(names_of_parameters(getattr(self.module, name)), arguments, name)
            self.assertEqual(getattr(self.module, name).__module__, self.module.__name__, name)

    def test_each_name_of_the_interface_is_tested_for_wrong_arguments(self):
        self.assertEqual(sorted(told.function.__name__ for told in self.told), sorted(self.interface))
