"""Points [55] to [60]: runs that may not be turned, and the parts in which a class falls without them."""

import itertools
import random
import unittest

from runturns import arms as module, errors
from runturns.arms import are_turns_without, barred_by_size, barring_runs, joined_without, least_arms, least_of_part
from runturns.arms import many_without, needless_bars, parts_without, turns_without
from runturns.shelves import Shelf
from runturns.ways import led
from tests.calls import Names, RightCalls, TwoShelves
from tests.helpers import ABC, MIXED, Arguments, WrongArguments, any_objects, catalogue_is_right, check_error
from tests.helpers import count_is_right, is_one_of, is_shelf, same
from tests.slow import are_turns_of, class_of, classes_to_four, drawn_of_small_class, neighbours, overlap_as_sets
from tests.slow import row_key, shelves_of_twelve, slow_awry, slow_runs

HOME, LEFT, RIGHT, CAB = [Shelf(ABC, list(row)) for row in ("abc", "bac", "acb", "cab")]
ABCD, ONE = ["a", "b", "c", "d"], Shelf(["z"], ["z"])
WILD, DLIW, PLAIN = Shelf(ABCD, ["b", "d", "a", "c"]), Shelf(ABCD, ["c", "a", "d", "b"]), Shelf(ABCD, ABCD)
AB, BC, ALL, WHOLE = ("a", "b"), ("b", "c"), ("a", "b", "c"), ("a", "b", "c", "d")
INTERFACE = {
    "joined_without": ["one", "other", "barred"], "turns_without": ["one", "other", "barred"],
    "are_turns_without": ["one", "other", "barred", "value"], "barring_runs": ["one", "other", "barred"],
    "many_without": ["shelf", "barred"], "parts_without": ["shelf", "barred"], "least_arms": ["one", "other"],
    "barred_by_size": ["catalogue", "most"], "needless_bars": ["shelf", "barred"], "least_of_part": ["shelf", "barred"]}


def are_barred_of_abc(value):
    judge = is_one_of([AB, BC, ALL])
    return type(value) is list and all(judge(run) for run in value) and value == sorted(set(value))


SHELF = (CAB, errors.InvalidShelf, is_shelf)
BARRED = ([AB], errors.InvalidArms, are_barred_of_abc)
VALUE = ([AB], None, None)


class WrongInputs(WrongArguments, Names, unittest.TestCase):
    module = module
    interface = INTERFACE
    told = [
        Arguments(joined_without, SHELF, SHELF, BARRED), Arguments(turns_without, SHELF, SHELF, BARRED),
        Arguments(are_turns_without, SHELF, SHELF, BARRED, VALUE), Arguments(barring_runs, SHELF, SHELF, BARRED),
        Arguments(many_without, SHELF, BARRED), Arguments(parts_without, SHELF, BARRED),
        Arguments(least_arms, SHELF, SHELF),
        Arguments(barred_by_size, (ABC, errors.InvalidCatalogue, catalogue_is_right),
                  (2, errors.InvalidCount, count_is_right(0, 10 ** 30))),
        Arguments(needless_bars, SHELF, BARRED), Arguments(least_of_part, SHELF, BARRED)]

    def test_barred_runs_that_are_none(self):
        wrong = [[BC, AB], [AB, AB], [("b", "a")], [("a", "c")], [("a",)], [()], (AB,), {AB: 1}, AB, "ab", None, [None],
                 [["a", "b"]], [AB, True], [WHOLE], [AB, ALL, BC, BC], [[AB]]]
        for barred in wrong:
            for function in (many_without, parts_without, needless_bars, least_of_part):
                check_error(self, function, [CAB, barred], errors.InvalidArms, barred)
            for function in (joined_without, turns_without, barring_runs):
                check_error(self, function, [CAB, HOME, barred], errors.InvalidArms, barred)
            check_error(self, are_turns_without, [CAB, HOME, barred, []], errors.InvalidArms, barred)
        barred = [("z",)]
        check_error(self, many_without, [ONE, barred], errors.InvalidArms, barred)

    def test_numbers_that_are_none(self):
        for most in (-1, True, False, None, "2", [2], {}, (2,)):
            check_error(self, barred_by_size, [ABC, most], errors.InvalidCount, most)


class Calls(RightCalls, unittest.TestCase):
    calls = [(function, [one, other, barred]) for function in (joined_without, turns_without, barring_runs)
             for one, other, barred in ((LEFT, CAB, [AB]), (HOME, CAB, [AB, BC]), (CAB, CAB, []), (ONE, ONE, []))]
    calls += [(function, [shelf, barred])
              for function in (many_without, parts_without, needless_bars, least_of_part)
              for shelf, barred in ((CAB, [AB, BC]), (HOME, []), (WILD, [AB, WHOLE]), (ONE, []))]
    calls += [(joined_without, [WILD, PLAIN, []]), (turns_without, [WILD, PLAIN, []]), (least_arms, [LEFT, RIGHT]),
              (least_arms, [WILD, PLAIN]), (least_arms, [CAB, CAB]), (barred_by_size, [ABC, 2]),
              (barred_by_size, [["q"], 0]), (are_turns_without, [LEFT, CAB, [AB], [ALL]]),
              (are_turns_without, [LEFT, CAB, [AB], {"a": [1]}])]


class Two(TwoShelves, unittest.TestCase):
    unlike, apart = Shelf(["a", "b", "c", "e"], ["a", "b", "c", "e"]), WILD
    pairs = [(joined_without, [PLAIN, PLAIN, []], 1, [2], None), (turns_without, [PLAIN, PLAIN, []], 1, [2], None),
             (are_turns_without, [PLAIN, PLAIN, [], []], 1, [2, 3], None),
             # Apart comes behind InvalidArms, so with right barred runs alone.
             (barring_runs, [PLAIN, PLAIN, [AB]], 1, [2], []), (least_arms, [PLAIN, PLAIN], 1, [], None)]

    def test_apart_comes_behind_barred_runs_that_are_none(self):
        for barred in ([BC, AB], None, [("a", "c")], (AB,)):
            check_error(self, barring_runs, [PLAIN, WILD, barred], errors.InvalidArms, barred)
        for barred in ([], [AB], [WHOLE]):
            check_error(self, barring_runs, [PLAIN, WILD, barred], errors.Apart, WILD)


def drawn_barred(drawn, catalogue):
    """Barred runs of all kinds: none, all, some."""
    lots = neighbours(catalogue)
    yield []
    yield lots
    for many in (1, 2, len(lots) // 2):
        yield sorted(drawn.sample(lots, min(many, len(lots))))


def cases():
    """Classes of the small catalogues and of drawn shelves, with barred runs."""
    drawn = random.Random(41)
    shelves = drawn_of_small_class(10, (5, 6, 7, 9), 6, 60) + drawn_of_small_class(4, (12,), 30, 30)
    for told in classes_to_four():
        lots = neighbours(told.all()[0].catalogue())
        for size in range(min(len(lots), 6) + 1):
            for barred in list(itertools.combinations(lots, size))[::3]:
                yield told, list(barred)
    for told in [class_of(shelf) for shelf in shelves]:
        for barred in drawn_barred(drawn, told.all()[0].catalogue()):
            yield told, barred


class Joined(unittest.TestCase):
    def test_which_shelves_are_joined_without_barred_runs(self):
        for told, barred in cases():
            parts = told.parts_without(barred)
            for one in told.all()[::7]:
                part = [part for part in parts if row_key(one) in part][0]
                for other in told.all()[::3]:
                    self.check_two(told, one, other, barred, row_key(other) in part)

    def check_two(self, told, one, other, barred, joined):
        differing = sorted(set(slow_awry(one)) ^ set(slow_awry(other)))
        self.assertIs(joined_without(one, other, barred), joined)
        self.assertTrue(same(barring_runs(one, other, barred), [run for run in differing if run in barred]))
        turns = turns_without(one, other, barred)
        self.assertEqual(turns is None, not joined)
        if joined:
            self.assertEqual([led(one, turns), len(turns)], [other, len(differing)])
            self.assertFalse(set(turns) & set(barred))
        self.assertIs(are_turns_without(one, other, barred, turns), joined)

    def test_are_turns_without(self):
        for told, barred in list(cases())[::3]:
            one = told.all()[-1]
            for other in told.all()[:6]:
                for way in told.ways(one, other)[:5]:
                    wanted = not set(way) & set(barred)
                    self.assertIs(are_turns_without(one, other, barred, way), wanted)
                    self.assertIs(are_turns_without(one, other, barred, tuple(way)), False)
                    for run in slow_runs(other)[:1]:
                        self.assertIs(are_turns_without(one, other, barred, way + [run, run]), False)
                    self.assertIs(are_turns_without(one, other, barred, way[:-1]), wanted and way == [])

    def test_are_turns_without_with_any_object(self):
        for one, other, barred in ((CAB, HOME, []), (CAB, HOME, [BC]), (CAB, HOME, [AB]), (CAB, CAB, [AB, ALL, BC]),
                                   (WILD, PLAIN, []), (LEFT, HOME, [ALL])):
            judge, many = are_turns_of(one), len(set(slow_awry(one)) ^ set(slow_awry(other)))
            for value in any_objects():
                wanted = judge(value) and led(one, value) == other and len(value) == many and \
                    not any(run in barred for run in value)
                self.assertIs(are_turns_without(one, other, barred, value), wanted, repr(value))

    def test_shelves_that_are_not_joined(self):
        self.assertEqual([joined_without(WILD, PLAIN, []), turns_without(WILD, PLAIN, [])], [False, None])
        for value in ([], None, [WHOLE]):
            self.assertIs(are_turns_without(WILD, PLAIN, [], value), False)


class Parts(unittest.TestCase):
    def test_many_without_and_parts_without(self):
        for told, barred in cases():
            parts = told.parts_without(barred)
            for shelf in told.all()[::5]:
                part = [part for part in parts if row_key(shelf) in part][0]
                self.assertTrue(same(many_without(shelf, barred), len(part)))
                self.assertTrue(same(parts_without(shelf, barred), len(parts)))

    def test_millions_of_shelves(self):
        rising, falling, crossed = shelves_of_twelve()[:3]
        books = rising.catalogue()
        lots = neighbours(books)
        for shelf in (rising, falling):
            self.assertEqual([many_without(shelf, []), parts_without(shelf, [])], [5293446, 1])
            self.assertEqual([many_without(shelf, lots), parts_without(shelf, lots)], [1, 5293446])
            # The whole overlaps no run: it stands awry in half of all shelves.
            self.assertEqual(many_without(shelf, [tuple(books)]), 2646723)
        # Both halves of the others: those of eleven books, and of two.
        first = [tuple(books[:2])]
        self.assertEqual(many_without(rising, first) + many_without(falling, first), 2 * (5293446 - 1037718))
        self.assertEqual(many_without(crossed, [tuple(books)]), 1)
        self.assertEqual([many_without(crossed, lots[:1]), parts_without(crossed, lots)], [2, 2])

    def test_needless_bars(self):
        for told, barred in cases():
            turnable, parts = told.turnable(), told.parts_without(barred)
            for shelf in told.all()[::5]:
                kept = [run for run in slow_awry(shelf) if run in barred]
                wanted = [run for run in barred
                          if run not in turnable or any(overlap_as_sets(run, other) for other in kept)]
                self.assertTrue(same(needless_bars(shelf, barred), wanted))
                part = [part for part in parts if row_key(shelf) in part][0]
                rest = [run for run in barred if run not in wanted]
                self.assertIn(part, told.parts_without(rest))

    def test_least_of_part(self):
        for told, barred in cases():
            for part in told.parts_without(barred):
                shelves = [told.shelves[row] for row in sorted(part)]
                fewest = min(shelves, key=lambda shelf: len(slow_awry(shelf)))
                for shelf in shelves[::6]:
                    self.assertTrue(same(least_of_part(shelf, barred), fewest))


class Arms(unittest.TestCase):
    def test_least_arms(self):
        for told in classes_to_four() + [class_of(shelf) for shelf in drawn_of_small_class(10, (5, 6, 7, 9), 6, 60)]:
            lots = neighbours(told.all()[0].catalogue())
            by_size = {size: told.parts_without([run for run in lots if len(run) > size]) for size in range(13)}
            for one in told.all()[::5]:
                for other in told.all()[::2]:
                    enough = [size for size, parts in by_size.items()
                              if any(row_key(one) in part and row_key(other) in part for part in parts)]
                    self.assertTrue(same(least_arms(one, other), min(enough)))

    def test_least_arms_at_the_edges(self):
        rising, falling, crossed = shelves_of_twelve()[:3]
        self.assertEqual([least_arms(rising, falling), least_arms(rising, crossed)], [12, None])
        self.assertEqual([least_arms(ONE, ONE), least_arms(WILD, PLAIN), least_arms(WILD, DLIW)], [0, None, 4])
        self.assertTrue(same(least_arms(CAB, Shelf(ABC, ["c", "a", "b"])), 0))

    def test_barred_by_size(self):
        for catalogue in (["q"], ["b", "a"], ABC, MIXED, shelves_of_twelve()[0].catalogue()):
            for most in (0, 1, 2, 3, 4, 5, 11, 12, 13, 60, 10 ** 29):
                wanted = [run for run in neighbours(catalogue) if len(run) > most]
                self.assertTrue(same(barred_by_size(catalogue, most), wanted))
