"""Points [43] to [49]: turns and where they lead, differing runs, and the shortest ways."""

import itertools
import random
import unittest

from runturns import errors, ways as module
from runturns.lots import filled, shelf_of
from runturns.shelves import Shelf
from runturns.ways import ahead_of, differing_runs, even, fewest_turns, first_runs, is_shortest_way, is_way, last_runs
from runturns.ways import led, many_ways, odd_runs, shortest_way, way_at, way_place
from tests.calls import Names, RightCalls, TwoShelves
from tests.helpers import ABC, Arguments, WrongArguments, any_objects, check_error, count_is_right, is_shelf, same
from tests.slow import are_turns_of, class_of, drawn_of_small_class, many_shelves, overlap_as_sets, row_key
from tests.slow import shelf_of_ranks, shelves_of_twelve, shelves_to_four, slow_awry, slow_runs, slow_turned

HOME, LEFT, RIGHT, CAB = [Shelf(ABC, list(row)) for row in ("abc", "bac", "acb", "cab")]
ABCD, ONE = ["a", "b", "c", "d"], Shelf(["z"], ["z"])
WILD, DLIW, PLAIN = Shelf(ABCD, ["b", "d", "a", "c"]), Shelf(ABCD, ["c", "a", "d", "b"]), Shelf(ABCD, ABCD)
AB, BC, ALL = ("a", "b"), ("b", "c"), ("a", "b", "c")
INTERFACE = {
    "led": ["shelf", "turns"], "is_way": ["one", "other", "value"], "differing_runs": ["one", "other"],
    "fewest_turns": ["one", "other"], "odd_runs": ["shelf", "turns"], "shortest_way": ["one", "other"],
    "is_shortest_way": ["one", "other", "value"], "ahead_of": ["one", "other"], "many_ways": ["one", "other"],
    "first_runs": ["one", "other"], "last_runs": ["one", "other"], "way_at": ["one", "other", "number"],
    "way_place": ["one", "other", "turns"], "even": ["one", "other"]}


SHELF = (CAB, errors.InvalidShelf, is_shelf)
HOME_SHELF = (HOME, errors.InvalidShelf, is_shelf)
VALUE = ([AB], None, None)
TURNS = ([AB], errors.InvalidTurns, are_turns_of(CAB))


class WrongInputs(WrongArguments, Names, unittest.TestCase):
    module = module
    interface = INTERFACE
    told = [
        Arguments(led, SHELF, TURNS), Arguments(is_way, SHELF, SHELF, VALUE), Arguments(differing_runs, SHELF, SHELF),
        Arguments(fewest_turns, SHELF, SHELF), Arguments(odd_runs, SHELF, TURNS), Arguments(shortest_way, SHELF, SHELF),
        Arguments(is_shortest_way, SHELF, SHELF, VALUE), Arguments(ahead_of, SHELF, SHELF),
        Arguments(many_ways, SHELF, SHELF), Arguments(first_runs, SHELF, SHELF), Arguments(last_runs, SHELF, SHELF),
        Arguments(way_at, HOME_SHELF, SHELF, (0, errors.InvalidCount, count_is_right(0, 2))),
        Arguments(way_place, SHELF, SHELF, ([], errors.InvalidTurns, lambda value: type(value) is list)),
        Arguments(even, SHELF, SHELF)]

    def test_turns_that_are_none(self):
        # Each run has to be one of the shelf that those ahead of it made.
        for function in (led, odd_runs):
            for wrong in ([BC], [ALL, BC], [AB, ("a", "c")], (AB,), [AB, None], [["a", "b"]], {AB: 1}, AB, None, [()],
                          [AB, AB, BC], [("b", "a")], ["ab"], [("a",)], "", True):
                check_error(self, function, [CAB, wrong], errors.InvalidTurns, wrong)
            for wrong in ([("z",)], [()], ["z"]):
                check_error(self, function, [ONE, wrong], errors.InvalidTurns, wrong)

    def test_numbers_beyond_the_last_way(self):
        for one, other, many in ((HOME, CAB, 2), (LEFT, RIGHT, 1), (HOME, HOME, 1), (WILD, DLIW, 1)):
            self.assertTrue(same(way_at(one, other, many - 1), class_of(one).ways(one, other)[many - 1]))
            for number in (many, many + 1, -1, True, False, None, "0", [0], 10 ** 29):
                check_error(self, way_at, [one, other, number], errors.InvalidCount, number)


class Calls(RightCalls, unittest.TestCase):
    calls = [(function, [one, other])
             for function in (differing_runs, fewest_turns, shortest_way, ahead_of, many_ways, first_runs, last_runs,
                              even)
             for one, other in ((LEFT, RIGHT), (HOME, CAB), (WILD, DLIW), (CAB, CAB), (ONE, ONE))]
    calls += [(function, [WILD, PLAIN]) for function in (differing_runs, fewest_turns, shortest_way, many_ways)]
    calls += [(led, [CAB, [AB, ALL]]), (led, [CAB, []]), (odd_runs, [CAB, [AB, ALL, AB]]), (odd_runs, [ONE, []]),
              (is_way, [LEFT, RIGHT, [AB, BC]]), (is_way, [LEFT, RIGHT, [BC]]), (is_way, [LEFT, RIGHT, {"a": [1]}]),
              (is_shortest_way, [LEFT, RIGHT, [AB, BC]]), (is_shortest_way, [HOME, HOME, [AB, AB]]),
              (way_at, [HOME, CAB, 1]), (way_at, [HOME, HOME, 0]), (way_place, [HOME, CAB, [ALL, AB]]),
              (way_place, [HOME, CAB, [AB, AB]])]


class Two(TwoShelves, unittest.TestCase):
    unlike, apart = Shelf(["a", "b", "c", "e"], ["a", "b", "c", "e"]), WILD
    pairs = [(is_way, [PLAIN, PLAIN, []], 1, [2], None), (differing_runs, [PLAIN, PLAIN], 1, [], None),
             (fewest_turns, [PLAIN, PLAIN], 1, [], None), (shortest_way, [PLAIN, PLAIN], 1, [], None),
             (is_shortest_way, [PLAIN, PLAIN, []], 1, [2], None), (ahead_of, [PLAIN, PLAIN], 1, [], []),
             (many_ways, [PLAIN, PLAIN], 1, [], None), (first_runs, [PLAIN, PLAIN], 1, [], []),
             (last_runs, [PLAIN, PLAIN], 1, [], []), (way_at, [PLAIN, PLAIN, 0], 1, [2], [2]),
             (way_place, [PLAIN, PLAIN, []], 1, [2], [2]), (even, [PLAIN, PLAIN], 1, [], [])]


def joined_pairs():
    """Each two joined shelves of at most four books, and of some drawn ones."""
    pairs = [(one, class_of(one).shelves[row]) for one in shelves_to_four() for row in class_of(one).shelves]
    for shelf in drawn_of_small_class(8, (5, 6, 7, 9), 8, 100) + drawn_of_small_class(4, (12,), 30, 50):
        shelves = class_of(shelf).all()
        pairs += list(itertools.product(shelves[::9], shelves[::5]))
    return pairs


def drawn_turns(drawn, shelf, many):
    """Some turns of a shelf, and the shelf behind them."""
    reached, turns = shelf, []
    for _ in range(many if slow_runs(shelf) else 0):
        turns.append(drawn.choice(slow_runs(reached)))
        reached = slow_turned(reached, turns[-1])
    return turns, reached


class Turns(unittest.TestCase):
    def test_led_and_odd_runs(self):
        drawn = random.Random(11)
        for shelf in many_shelves():
            for many in (0, 1, 2, 7, 40):
                turns, reached = drawn_turns(drawn, shelf, many)
                self.assertTrue(same(led(shelf, turns), reached))
                self.assertIs(is_way(shelf, reached, turns), True)
                odd = sorted(run for run in set(turns) if turns.count(run) % 2)
                self.assertTrue(same(odd_runs(shelf, turns), odd))
                self.assertEqual(odd, sorted(set(slow_awry(shelf)) ^ set(slow_awry(reached))))

    def test_is_way_with_any_object(self):
        for one, other in ((CAB, CAB), (CAB, HOME), (HOME, CAB), (LEFT, HOME), (WILD, DLIW), (ONE, ONE), (WILD, PLAIN)):
            judge = are_turns_of(one)
            for value in any_objects():
                wanted = judge(value) and led(one, value) == other
                self.assertIs(is_way(one, other, value), wanted, repr(value))
                shortest = wanted and len(value) == len(set(slow_awry(one)) ^ set(slow_awry(other)))
                self.assertIs(is_shortest_way(one, other, value), shortest, repr(value))

    def test_all_turns_of_up_to_three_runs(self):
        shelves = [shelf for shelf in shelves_to_four() if len(shelf.row()) == 3]
        runs = [tuple(shelves[0].catalogue()), tuple(shelves[0].catalogue()[:2]), tuple(shelves[0].catalogue()[1:])]
        for one in shelves:
            for size in range(4):
                for turns in itertools.product(runs, repeat=size):
                    right = are_turns_of(one)(list(turns))
                    for other in shelves:
                        wanted = right and led(one, list(turns)) == other
                        self.assertIs(is_way(one, other, list(turns)), wanted)
                        self.assertIs(is_way(one, other, turns), False)


class Distances(unittest.TestCase):
    def test_fewest_turns_layer_by_layer(self):
        for one in shelves_to_four():
            layers = class_of(one).layers_from(one)
            for other in shelves_to_four():
                if one.catalogue() == other.catalogue():
                    self.assertTrue(same(fewest_turns(one, other), layers.get(row_key(other))))
                    if row_key(other) not in layers:
                        self.check_apart(one, other)

    def check_apart(self, one, other):
        self.assertEqual([differing_runs(one, other), shortest_way(one, other)], [None, None])
        self.assertTrue(same(many_ways(one, other), 0))
        for value in ([], [tuple(one.catalogue())], None):
            self.assertIs(is_way(one, other, value), False)
            self.assertIs(is_shortest_way(one, other, value), False)

    def test_each_two_joined_shelves(self):
        for one, other in joined_pairs():
            differing = sorted(set(slow_awry(one)) ^ set(slow_awry(other)))
            self.assertTrue(same(differing_runs(one, other), differing))
            self.assertTrue(same(fewest_turns(one, other), len(differing)))
            self.assertIs(even(one, other), len(differing) % 2 == 0)
            way = shortest_way(one, other)
            self.assertIs(is_shortest_way(one, other, way), True)
            self.assertEqual([len(way), led(one, way)], [len(differing), other])
            late = [run for run in slow_awry(other) if run not in slow_awry(one)]
            early = [run for run in slow_awry(one) if run not in slow_awry(other)]
            ahead = sorted(pair for pair in itertools.product(early, late) if overlap_as_sets(*pair))
            self.assertTrue(same(ahead_of(one, other), ahead))

    def test_drawn_shelves(self):
        for shelf in drawn_of_small_class(8, (5, 6, 7, 9), 8, 100) + drawn_of_small_class(4, (12,), 30, 50):
            told = class_of(shelf)
            for row, many in told.layers_from(shelf).items():
                self.assertEqual(fewest_turns(shelf, told.shelves[row]), many)

    def test_longer_ways_are_no_shortest_ones(self):
        drawn = random.Random(13)
        for one, other in joined_pairs()[::7]:
            way = shortest_way(one, other)
            for run in slow_runs(other)[:2]:
                self.assertIs(is_way(one, other, way + [run, run]), True)
                self.assertIs(is_shortest_way(one, other, way + [run, run]), False)
                self.assertIs(is_way(one, other, way + [run]), False)
            mixed = drawn.sample(way, len(way))
            right = mixed in class_of(one).ways(one, other)
            self.assertIs(is_shortest_way(one, other, mixed), right)
            self.assertIs(is_way(one, other, mixed), right)


class ShortestWays(unittest.TestCase):
    def test_all_of_them(self):
        for one, other in joined_pairs():
            ways = class_of(one).ways(one, other)
            self.assertTrue(same(many_ways(one, other), len(ways)))
            self.assertTrue(same(first_runs(one, other), sorted({way[0] for way in ways if way})))
            self.assertTrue(same(last_runs(one, other), sorted({way[-1] for way in ways if way})))
            for number in range(0, len(ways), 1 + len(ways) // 6):
                self.assertTrue(same(way_at(one, other, number), ways[number]))
                self.assertTrue(same(way_place(one, other, ways[number]), number))

    def test_the_orders_in_which_each_run_stands_ahead_of_its_late_one(self):
        for one, other in joined_pairs()[::9]:
            differing, pairs = differing_runs(one, other), ahead_of(one, other)
            if len(differing) < 6:
                orders = [list(order) for order in itertools.permutations(differing)
                          if all(order.index(run) < order.index(late) for run, late in pairs)]
                self.assertEqual(sorted(orders), class_of(one).ways(one, other))

    def test_a_shelf_and_itself(self):
        for shelf in (HOME, CAB, ONE, WILD, DLIW):
            for twin in (shelf, Shelf(shelf.catalogue(), shelf.row())):
                self.assertTrue(same([many_ways(shelf, twin), fewest_turns(shelf, twin)], [1, 0]))
                self.assertEqual([first_runs(shelf, twin), last_runs(shelf, twin), ahead_of(shelf, twin)], [[], [], []])
                self.assertEqual(way_at(shelf, twin, 0), [])
                self.assertTrue(same(way_place(shelf, twin, []), 0))
                self.assertIs(even(shelf, twin), True)
                self.assertEqual(shortest_way(shelf, twin), [])

    def test_way_place_of_lists_that_are_no_shortest_way(self):
        for value in any_objects():
            if type(value) is list:
                wanted = {0: [AB, ALL], 1: [ALL, AB]}
                place = next((at for at, way in wanted.items() if same(way, value)), None)
                self.assertTrue(same(way_place(HOME, CAB, value), place), repr(value))
        for value in ([AB], [ALL, AB, AB, AB], [AB, AB, AB, ALL], [BC, ALL], [None], [ALL, AB, []], []):
            self.assertIsNone(way_place(HOME, CAB, value))
        for value in ((AB, ALL), {AB: 1, ALL: 1}, None, "ab", 0):
            check_error(self, way_place, [HOME, CAB, value], errors.InvalidTurns, value)


class EightTurns(unittest.TestCase):
    def test_lots_that_lie_within_one_another(self):
        books = shelves_of_twelve()[0].catalogue()
        home = Shelf(books, books)
        lot = sorted(tuple(books[:size]) for size in range(3, 11))
        other = shelf_of(home, lot)
        self.assertEqual([fewest_turns(home, other), many_ways(home, other)], [8, 40320])
        self.assertEqual([way_at(home, other, 0), way_at(home, other, 40319)], [lot, lot[::-1]])
        orders = sorted(itertools.permutations(lot))
        for number in (1, 2, 719, 5040, 20000, 33333, 40318):
            self.assertTrue(same(way_at(home, other, number), list(orders[number])))
            self.assertTrue(same(way_place(home, other, list(orders[number])), number))
        check_error(self, way_at, [home, other, 40320], errors.InvalidCount, 40320)
        self.assertEqual([first_runs(home, other), last_runs(home, other), even(home, other)], [lot, lot, True])

    def test_lots_that_overlap(self):
        books = list("hgfedcba")
        one = shelf_of(Shelf(books, books), sorted([tuple(books[at:at + 2]) for at in (0, 2, 4, 6)]))
        other = shelf_of(one, sorted([tuple(books[at:at + 2]) for at in (1, 3, 5)] + [tuple(books)]))
        told = ahead_of(one, other)
        self.assertEqual([fewest_turns(one, other), len(told)], [8, 6])
        self.assertEqual(told[0], (("b", "a"), ("c", "b")))
        orders = [order for order in itertools.permutations(differing_runs(one, other))
                  if all(order.index(run) < order.index(late) for run, late in told)]
        self.assertEqual(many_ways(one, other), len(orders))
        self.assertEqual(list(orders), sorted(orders))
        for number in range(0, len(orders), 97):
            self.assertEqual(way_at(one, other, number), list(orders[number]))
            self.assertEqual(way_place(one, other, list(orders[number])), number)
            self.assertIs(is_shortest_way(one, other, list(orders[number])), True)
        firsts, lasts = sorted({order[0] for order in orders}), sorted({order[-1] for order in orders})
        self.assertEqual([first_runs(one, other), last_runs(one, other)], [firsts, lasts])

    def test_more_than_eight_differing_runs_have_a_shortest_way(self):
        for shelf in many_shelves():
            other = filled(shelf_of_ranks(shelf.catalogue(), [shelf.catalogue().index(book) for book in shelf.row()]))
            way = shortest_way(shelf, other)
            self.assertEqual([led(shelf, way), len(way)], [other, fewest_turns(shelf, other)])
