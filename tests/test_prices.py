"""Points [50] to [54]: what turns cost, least prices, where to meet, and the farthest shelf."""

import itertools
import random
import unittest

from runturns import errors, prices as module
from runturns.lots import filled, shelf_of
from runturns.prices import are_cheapest, cheapest_turns, farthest_at_price, farthest_price, is_farthest_at_price
from runturns.prices import is_meeting_shelf, least_price, many_at_price, meeting_price, meeting_shelf, price_of
from runturns.prices import prices_by_size
from runturns.runs import all_runs, run_turned
from runturns.shelves import Shelf
from runturns.ways import led
from tests.calls import Names, RightCalls, TwoShelves
from tests.helpers import ABC, MIXED, Arguments, WrongArguments, any_objects, catalogue_is_right, check_error
from tests.helpers import count_is_right, is_one_of, is_shelf, same
from tests.slow import are_turns_of, class_of, classes_to_four, drawn_of_small_class, many_shelves, neighbours, row_key
from tests.slow import shelves_of_twelve, shelves_to_four, slow_awry, slow_runs, slow_turned

HOME, LEFT, RIGHT, CAB = [Shelf(ABC, list(row)) for row in ("abc", "bac", "acb", "cab")]
ABCD, ONE = ["a", "b", "c", "d"], Shelf(["z"], ["z"])
WILD, DLIW, PLAIN = Shelf(ABCD, ["b", "d", "a", "c"]), Shelf(ABCD, ["c", "a", "d", "b"]), Shelf(ABCD, ABCD)
AB, BC, ALL = ("a", "b"), ("b", "c"), ("a", "b", "c")
DEAR = {AB: 5, ALL: 2}
INTERFACE = {
    "price_of": ["shelf", "turns", "prices"], "meeting_price": ["shelves", "prices"],
    "meeting_shelf": ["shelves", "prices"], "is_meeting_shelf": ["shelves", "prices", "value"],
    "least_price": ["one", "other", "prices"], "cheapest_turns": ["one", "other", "prices"],
    "are_cheapest": ["one", "other", "prices", "value"], "prices_by_size": ["catalogue", "rates"],
    "many_at_price": ["shelf", "prices", "most"], "farthest_price": ["shelf", "prices"],
    "farthest_at_price": ["shelf", "prices"], "is_farthest_at_price": ["shelf", "prices", "value"]}


def is_count(value):
    return type(value) is int and value >= 0


def are_prices_of_abc(value):
    judge = is_one_of([AB, BC, ALL])
    return type(value) is dict and all(judge(key) and is_count(price) for key, price in value.items())


def are_rates(value):
    return type(value) is list and value != [] and all(is_count(rate) for rate in value)


def are_shelves(value):
    return type(value) is list and value != [] and all(type(shelf) is Shelf for shelf in value)


SHELF = (CAB, errors.InvalidShelf, is_shelf)
SHELVES = ([CAB, HOME], errors.InvalidShelves, are_shelves)
PRICES = (DEAR, errors.InvalidPrices, are_prices_of_abc)
VALUE = ([AB], None, None)


class WrongInputs(WrongArguments, Names, unittest.TestCase):
    module = module
    interface = INTERFACE
    told = [
        Arguments(price_of, SHELF, ([AB], errors.InvalidTurns, are_turns_of(CAB)), PRICES),
        Arguments(prices_by_size, (ABC, errors.InvalidCatalogue, catalogue_is_right),
                  ([2, 3], errors.InvalidPrices, are_rates)),
        Arguments(least_price, SHELF, SHELF, PRICES), Arguments(cheapest_turns, SHELF, SHELF, PRICES),
        Arguments(are_cheapest, SHELF, SHELF, PRICES, VALUE), Arguments(meeting_price, SHELVES, PRICES),
        Arguments(meeting_shelf, SHELVES, PRICES), Arguments(is_meeting_shelf, SHELVES, PRICES, VALUE),
        Arguments(many_at_price, SHELF, PRICES, (3, errors.InvalidCount, count_is_right(0, 10 ** 30))),
        Arguments(farthest_price, SHELF, PRICES), Arguments(farthest_at_price, SHELF, PRICES),
        Arguments(is_farthest_at_price, SHELF, PRICES, VALUE)]

    def test_prices_that_are_none(self):
        wrong = [{AB: -1}, {AB: True}, {AB: False}, {AB: "1"}, {AB: None}, {AB: [1]}, {("b", "a"): 1}, {("a", "c"): 1},
                 {("a",): 1}, {(): 1}, {"ab": 1}, {("a", "b", "c", "d"): 1}, {AB: 1, 0: 1}, {AB: 1, None: 0},
                 [(AB, 1)], (), None, {("a", "b", 1): 1}, {True: 1}]
        for prices in wrong:
            for function in (farthest_price, farthest_at_price):
                check_error(self, function, [CAB, prices], errors.InvalidPrices, prices)
            for function in (least_price, cheapest_turns):
                check_error(self, function, [CAB, HOME, prices], errors.InvalidPrices, prices)
            check_error(self, many_at_price, [CAB, prices, 3], errors.InvalidPrices, prices)
            check_error(self, price_of, [CAB, [], prices], errors.InvalidPrices, prices)
            check_error(self, meeting_price, [[CAB], prices], errors.InvalidPrices, prices)
        # There are no neighbours on a shelf of one book.
        for prices in ({("z",): 1}, {AB: 1}):
            check_error(self, farthest_price, [ONE, prices], errors.InvalidPrices, prices)

    def test_rates_that_are_none(self):
        for rates in ([], [1, True], [False], [-1], [1, -1], (1, 2), {0: 1}, "12", ["1"], [1, None], [[1]], 1, None):
            for catalogue in (ABC, ["q"]):
                check_error(self, prices_by_size, [catalogue, rates], errors.InvalidPrices, rates)

    def test_numbers_that_are_none(self):
        for most in (-1, True, False, None, "3", [3], (3,), {}):
            check_error(self, many_at_price, [CAB, DEAR, most], errors.InvalidCount, most)


class Calls(RightCalls, unittest.TestCase):
    calls = [(price_of, [HOME, [AB, AB, ALL], DEAR]), (price_of, [ONE, [], {}]), (prices_by_size, [ABC, [4, 1]]),
             (prices_by_size, [["q"], [1]]), (least_price, [LEFT, RIGHT, DEAR]), (least_price, [WILD, PLAIN, {}]),
             (cheapest_turns, [LEFT, RIGHT, DEAR]), (cheapest_turns, [WILD, PLAIN, {}]),
             (are_cheapest, [LEFT, RIGHT, DEAR, [AB, BC]]), (are_cheapest, [LEFT, RIGHT, DEAR, {"a": [1]}]),
             (meeting_price, [[LEFT, CAB, RIGHT], DEAR]), (meeting_shelf, [[LEFT, CAB, RIGHT], DEAR]),
             (meeting_shelf, [[ONE], {}]), (is_meeting_shelf, [[LEFT, CAB, RIGHT], DEAR, LEFT]),
             (is_meeting_shelf, [[LEFT, CAB, RIGHT], DEAR, [LEFT]]), (many_at_price, [CAB, DEAR, 9]),
             (many_at_price, [ONE, {}, 0])]
    calls += [(function, [shelf, {}]) for function in (farthest_price, farthest_at_price) for shelf in (CAB, WILD, ONE)]
    calls += [(is_farthest_at_price, [LEFT, DEAR, RIGHT]), (is_farthest_at_price, [LEFT, DEAR, [RIGHT]])]


class Two(TwoShelves, unittest.TestCase):
    unlike, apart = Shelf(["a", "b", "c", "e"], ["a", "b", "c", "e"]), WILD
    pairs = [(least_price, [PLAIN, PLAIN, {AB: 2}], 1, [2], None), (cheapest_turns, [PLAIN, PLAIN, {}], 1, [2], None),
             (are_cheapest, [PLAIN, PLAIN, {}, []], 1, [2, 3], None)]


class SeveralShelves(unittest.TestCase):
    functions = ((meeting_price, []), (meeting_shelf, []), (is_meeting_shelf, [PLAIN]))

    def test_the_order_of_errors(self):
        stranger, other = Shelf(["d", "c", "b", "a"], ABCD), Shelf(["z"], ["z"])
        for function, more in self.functions:
            for wrong in ({("a", "c"): 1}, {"ab": 1}, None, []):
                shelves = [PLAIN, WILD, stranger, None]
                check_error(self, function, [shelves, wrong] + more, errors.InvalidShelves, shelves)
                shelves = [PLAIN, WILD, stranger, other]
                check_error(self, function, [shelves, wrong] + more, errors.Unlike, stranger)
                shelves = [PLAIN, WILD, DLIW]
                check_error(self, function, [shelves, wrong] + more, errors.InvalidPrices, wrong)
            check_error(self, function, [shelves, {}] + more, errors.Apart, WILD)
            shelves = [PLAIN, PLAIN, DLIW, WILD]
            check_error(self, function, [shelves, {AB: 3}] + more, errors.Apart, DLIW)
            shelves = [WILD, DLIW, PLAIN]
            check_error(self, function, [shelves, {AB: 3}] + more, errors.Apart, PLAIN)

    def test_lists_that_are_none(self):
        for function, more in self.functions:
            for shelves in ([], (PLAIN,), PLAIN, [PLAIN, [PLAIN]], [None], {PLAIN.row()[0]: PLAIN}, None, [[]], "ab"):
                check_error(self, function, [shelves, {}] + more, errors.InvalidShelves, shelves)
                check_error(self, function, [shelves, None] + more, errors.InvalidShelves, shelves)


def drawn_prices(drawn, catalogue):
    """Prices of all kinds: none, alike for all, for some runs alone, many of them 0, great ones."""
    lots = neighbours(catalogue)
    yield {}
    yield {lot: 0 for lot in lots}
    yield {lot: 7 for lot in lots}
    yield {lot: drawn.choice([0, 0, 1, 2]) for lot in lots}
    yield {lot: drawn.randint(0, 60) for lot in drawn.sample(lots, len(lots) // 2)}


def price_by(prices):
    return lambda run: prices.get(run, 1)


def drawn_classes():
    shelves = drawn_of_small_class(9, (5, 6, 7, 9), 6, 50) + drawn_of_small_class(4, (12,), 30, 20)
    return [class_of(shelf) for shelf in shelves]


class Prices(unittest.TestCase):
    def test_price_of(self):
        drawn = random.Random(17)
        for shelf in many_shelves():
            for prices in drawn_prices(drawn, shelf.catalogue()):
                reached, turns, cost = shelf, [], 0
                for _ in range(6 if slow_runs(shelf) else 0):
                    turns.append(drawn.choice(slow_runs(reached)))
                    cost += prices.get(turns[-1], 1)
                    reached = slow_turned(reached, turns[-1])
                self.assertTrue(same(price_of(shelf, turns, prices), cost))
                self.assertTrue(same(price_of(shelf, [], prices), 0))

    def test_prices_by_size(self):
        for catalogue in (["q"], ["b", "a"], ABC, MIXED, shelves_of_twelve()[0].catalogue()):
            for rates in ([3], [0], [4, 1], [1, 2, 3], [5] * 11, list(range(20)), [60, 0]):
                wanted = {lot: (rates + [rates[-1]] * 12)[len(lot) - 2] for lot in neighbours(catalogue)}
                self.assertTrue(same(prices_by_size(catalogue, rates), wanted))

    def test_the_order_of_keys_means_nothing(self):
        prices, backwards = {AB: 5, ALL: 2, BC: 7}, {BC: 7, ALL: 2, AB: 5}
        for function, more in ((least_price, [LEFT, RIGHT]), (cheapest_turns, [LEFT, RIGHT])):
            self.assertTrue(same(function(*more, prices), function(*more, backwards)))
        self.assertTrue(same(many_at_price(CAB, prices, 20), many_at_price(CAB, backwards, 20)))
        self.assertTrue(same(farthest_price(CAB, prices), farthest_price(CAB, backwards)))


class LeastPrices(unittest.TestCase):
    def test_least_prices_and_cheapest_turns(self):
        drawn = random.Random(19)
        for told in classes_to_four() + drawn_classes():
            for prices in drawn_prices(drawn, told.all()[0].catalogue()):
                for one in told.all()[::3]:
                    least = told.prices_from(one, price_by(prices))
                    for other in told.all()[::2]:
                        self.check_least(one, other, prices, least[row_key(other)])

    def check_least(self, one, other, prices, told):
        self.assertTrue(same(least_price(one, other, prices), told[0]))
        turns = cheapest_turns(one, other, prices)
        self.assertEqual([led(one, turns), len(turns), price_of(one, turns, prices)], [other, told[1], told[0]])
        self.assertIs(are_cheapest(one, other, prices, turns), True)

    def test_are_cheapest_however_many(self):
        drawn = random.Random(23)
        for told in classes_to_four() + drawn_classes():
            for prices in drawn_prices(drawn, told.all()[0].catalogue()):
                for one in told.all()[::6]:
                    least = told.prices_from(one, price_by(prices))
                    self.check_detours(drawn, one, prices, least)

    def check_detours(self, drawn, one, prices, least):
        for _ in range(6 if slow_runs(one) else 0):
            turns, reached = [], one
            for _ in range(drawn.randint(0, 8)):
                free = [run for run in slow_runs(reached) if prices.get(run, 1) == 0]
                turns.append(drawn.choice(free or slow_runs(reached)))
                reached = slow_turned(reached, turns[-1])
            cheap = sum(prices.get(run, 1) for run in turns) == least[row_key(reached)][0]
            self.assertIs(are_cheapest(one, reached, prices, turns), cheap)
            for other in (one, HOME):
                if other.catalogue() == one.catalogue() and other != reached:
                    self.assertIs(are_cheapest(one, other, prices, turns), False)

    def test_are_cheapest_with_any_object(self):
        for one, other, prices in ((CAB, HOME, {}), (CAB, CAB, {AB: 0}), (CAB, LEFT, {AB: 0, BC: 0}),
                                   (WILD, PLAIN, {})):
            judge = are_turns_of(one)
            for value in any_objects():
                wanted = judge(value) and led(one, value) == other and \
                    sum(prices.get(run, 1) for run in value) == least_price(one, other, prices)
                self.assertIs(are_cheapest(one, other, prices, value), wanted, repr(value))

    def test_shelves_that_are_not_joined(self):
        for prices in ({}, {("a", "b", "c", "d"): 0}):
            self.assertEqual([least_price(WILD, PLAIN, prices), cheapest_turns(WILD, PLAIN, prices)], [None, None])
            for value in ([], None, [("a", "b", "c", "d")]):
                self.assertIs(are_cheapest(WILD, PLAIN, prices, value), False)

    def test_a_shelf_and_itself(self):
        for shelf in shelves_to_four() + shelves_of_twelve():
            twin = Shelf(shelf.catalogue(), shelf.row())
            self.assertTrue(same([least_price(shelf, twin, {}), cheapest_turns(shelf, twin, {})], [0, []]))
            for run in slow_runs(shelf)[:1]:
                self.assertIs(are_cheapest(shelf, twin, {run: 0}, [run, run]), True)
                self.assertIs(are_cheapest(shelf, twin, {}, [run, run]), False)


class Meeting(unittest.TestCase):
    def test_meeting(self):
        drawn = random.Random(29)
        for told in classes_to_four() + drawn_classes():
            catalogue = told.all()[0].catalogue()
            for prices in drawn_prices(drawn, catalogue):
                least = {}
                for many in (1, 2, 3, 4, 7):
                    shelves = [drawn.choice(told.all()) for _ in range(many)]
                    for shelf in shelves:
                        if row_key(shelf) not in least:
                            least[row_key(shelf)] = told.prices_from(shelf, price_by(prices))
                    self.check_meeting(told, shelves, prices, least)

    def check_meeting(self, told, shelves, prices, least):
        sums = {row: sum(least[row_key(shelf)][row][0] for shelf in shelves) for row in told.shelves}
        best = min(sums.values())
        self.assertTrue(same(meeting_price(shelves, prices), best))
        self.assertEqual(sums[row_key(meeting_shelf(shelves, prices))], best)
        for row in list(told.shelves)[:40]:
            self.assertIs(is_meeting_shelf(shelves, prices, told.shelves[row]), sums[row] == best)

    def test_is_meeting_shelf_with_any_object(self):
        for value in any_objects() + [HOME, LEFT, RIGHT, WILD, Shelf(["c", "b", "a"], ["a", "b", "c"])]:
            wanted = type(value) is Shelf and value in (HOME, LEFT, RIGHT)
            self.assertIs(is_meeting_shelf([LEFT, RIGHT], {}, value), wanted, repr(value))
            self.assertIs(is_meeting_shelf([CAB], {}, value), type(value) is Shelf and value == CAB)

    def test_shelves_that_stand_there_several_times(self):
        self.assertEqual(meeting_shelf([LEFT, RIGHT, RIGHT], {}), RIGHT)
        self.assertEqual([meeting_price([LEFT, RIGHT, RIGHT], {}), meeting_price([LEFT, LEFT], {})], [2, 0])


class Numbers(unittest.TestCase):
    def test_many_at_price(self):
        drawn = random.Random(31)
        for told in classes_to_four() + drawn_classes():
            for prices in drawn_prices(drawn, told.all()[0].catalogue()):
                least = [pair[0] for pair in told.prices_from(told.home(), price_by(prices)).values()]
                for most in (0, 1, 5, 60):
                    wanted = [least.count(price) for price in range(most + 1)]
                    for shelf in (told.all()[0], told.all()[-1]):
                        self.assertTrue(same(many_at_price(shelf, prices, most), wanted))

    def test_millions_of_shelves(self):
        rising, falling, crossed = shelves_of_twelve()[:3]
        told = many_at_price(falling, {}, 60)
        self.assertEqual([told[:3], told[11], told[12:], sum(told)], [[1, 66, 1430], 58786, [0] * 49, 5293446])
        books = rising.catalogue()
        self.assertEqual(many_at_price(rising, {lot: 60 for lot in neighbours(books)}, 60), [1] + [0] * 59 + [66])
        self.assertEqual(many_at_price(rising, {lot: 0 for lot in neighbours(books)}, 1), [5293446, 0])
        self.assertEqual(many_at_price(crossed, {tuple(books): 3}, 4), [1, 0, 0, 1, 0])
        self.assertEqual(many_at_price(crossed, {tuple(books[:2]): 0}, 2), [1, 1, 0])

    def test_farthest(self):
        drawn = random.Random(37)
        for told in classes_to_four() + drawn_classes():
            for prices in drawn_prices(drawn, told.all()[0].catalogue()):
                for shelf in told.all()[::4]:
                    least = told.prices_from(shelf, price_by(prices))
                    farthest = max(pair[0] for pair in least.values())
                    self.assertTrue(same(farthest_price(shelf, prices), farthest))
                    self.assertEqual(least[row_key(farthest_at_price(shelf, prices))][0], farthest)
                    for row in list(told.shelves)[:40]:
                        wanted = least[row][0] == farthest
                        self.assertIs(is_farthest_at_price(shelf, prices, told.shelves[row]), wanted)

    def test_farthest_of_twelve(self):
        # From the home a full shelf is farthest, from a full one some other full shelf.
        rising = shelves_of_twelve()[0]
        self.assertEqual([farthest_price(rising, {}), farthest_price(filled(rising), {})], [11, 21])
        other = farthest_at_price(filled(rising), {})
        self.assertEqual([len(slow_awry(other)), least_price(filled(rising), other, {})], [10, 21])
        self.assertIs(is_farthest_at_price(filled(rising), {}, other), True)
        lot = sorted([tuple(rising.catalogue()[:size]) for size in (2, 3, 12)])
        self.assertEqual(farthest_price(rising, dict.fromkeys(neighbours(rising.catalogue()), 0) | {lot[0]: 9}), 9)
        self.assertEqual(farthest_price(shelf_of(rising, lot), dict.fromkeys(lot, 60)), 180 + 10)

    def test_is_farthest_with_any_object(self):
        for value in any_objects() + [HOME, LEFT, RIGHT, WILD, Shelf(["c", "b", "a"], ["a", "b", "c"])]:
            wanted = type(value) is Shelf and value == CAB
            self.assertIs(is_farthest_at_price(HOME, {AB: 5}, value), wanted, repr(value))

    def test_the_price_changes_by_that_of_the_run_that_is_turned(self):
        prices = {tuple(shelf.catalogue()): 4 for shelf in shelves_to_four()[-1:]}
        for shelf in shelves_to_four()[-24:]:
            for run in all_runs(shelf):
                self.assertEqual(least_price(shelf, run_turned(shelf, run), prices), prices.get(run, 1))
