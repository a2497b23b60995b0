"""Points [74] to [78]: shelves between two, in the middle of three, plans of days, and the nearest with a run."""

import itertools
import random
import unittest

from runturns import between as module, errors
from runturns.between import busiest_books, day_plan, fewest_days, is_between, is_day_plan, many_between, middle
from runturns.between import nearest_with, nearest_without, parting_shelves, shelves_between, sum_of_ways
from runturns.lots import filled, shelf_of
from runturns.shelves import Shelf, ranks
from tests.calls import Names, RightCalls, TwoShelves
from tests.helpers import ABC, Arguments, WrongArguments, any_objects, check_error, is_one_of, is_shelf, same
from tests.slow import Class, class_of, classes_to_four, drawn_of_small_class, drawn_shelves, many_shelves, neighbours
from tests.slow import overlap_as_sets, row_key, shelves_of_twelve, slow_awry, slow_runs, slow_turned

HOME, LEFT, RIGHT, CAB, CBA = [Shelf(ABC, list(row)) for row in ("abc", "bac", "acb", "cab", "cba")]
ABCD, ONE = ["a", "b", "c", "d"], Shelf(["z"], ["z"])
WILD, DLIW, PLAIN = Shelf(ABCD, ["b", "d", "a", "c"]), Shelf(ABCD, ["c", "a", "d", "b"]), Shelf(ABCD, ABCD)
AB, BC, ALL, WHOLE = ("a", "b"), ("b", "c"), ("a", "b", "c"), ("a", "b", "c", "d")
INTERFACE = {
    "is_between": ["one", "other", "value"], "many_between": ["one", "other"], "shelves_between": ["one", "other"],
    "middle": ["one", "other", "third"], "fewest_days": ["one", "other"], "day_plan": ["one", "other"],
    "is_day_plan": ["one", "other", "value"], "busiest_books": ["one", "other"], "nearest_with": ["shelf", "run"],
    "nearest_without": ["shelf", "run"], "parting_shelves": ["shelf", "run"], "sum_of_ways": ["shelf"]}

SHELF = (CAB, errors.InvalidShelf, is_shelf)
RUN = (AB, errors.InvalidRun, is_one_of([AB, BC, ("a", "c"), ALL]))


class WrongInputs(WrongArguments, Names, unittest.TestCase):
    module = module
    interface = INTERFACE
    told = [
        Arguments(is_between, SHELF, SHELF, (LEFT, None, None)), Arguments(many_between, SHELF, SHELF),
        Arguments(shelves_between, SHELF, SHELF), Arguments(middle, SHELF, SHELF, SHELF),
        Arguments(fewest_days, SHELF, SHELF), Arguments(day_plan, SHELF, SHELF),
        Arguments(is_day_plan, SHELF, SHELF, ([[AB]], None, None)), Arguments(busiest_books, SHELF, SHELF),
        Arguments(nearest_with, SHELF, RUN), Arguments(nearest_without, SHELF, RUN),
        Arguments(parting_shelves, SHELF, RUN), Arguments(sum_of_ways, SHELF)]

    def test_runs_that_are_none(self):
        for function in (nearest_with, nearest_without, parting_shelves):
            for run in (("b", "a"), ("a", "a"), ("a",), (), ["a", "b"], "ab", ("a", "x"), ("a", "b", "x"), ("a", 1),
                        ("a", "b", "c", "a"), ("c", "b", "a"), ("a", None), None, True, {"a": "b"}, (("a", "b"),)):
                check_error(self, function, [CAB, run], errors.InvalidRun, run)
            for run in (("z",), (), ("z", "z"), ("a", "z")):
                check_error(self, function, [ONE, run], errors.InvalidRun, run)


class Calls(RightCalls, unittest.TestCase):
    calls = [(function, [one, other])
             for function in (many_between, shelves_between, fewest_days, day_plan, busiest_books)
             for one, other in ((LEFT, RIGHT), (HOME, CAB), (WILD, DLIW), (CAB, CAB), (ONE, ONE))]
    calls += [(fewest_days, [WILD, PLAIN]), (day_plan, [WILD, PLAIN]), (is_day_plan, [WILD, PLAIN, []]),
              (is_between, [LEFT, RIGHT, HOME]), (is_between, [LEFT, RIGHT, CBA]), (is_between, [LEFT, RIGHT, [HOME]]),
              (middle, [LEFT, RIGHT, CBA]), (middle, [CAB, CAB, HOME]), (middle, [ONE, ONE, ONE]),
              (is_day_plan, [LEFT, RIGHT, [[AB], [BC]]]), (is_day_plan, [LEFT, RIGHT, [[BC], [AB]]]),
              (is_day_plan, [LEFT, RIGHT, {"a": [1]}]), (is_day_plan, [CAB, CAB, []]), (sum_of_ways, [CAB]),
              (sum_of_ways, [ONE]), (sum_of_ways, [WILD])]
    calls += [(function, [CAB, run]) for function in (nearest_with, nearest_without, parting_shelves)
              for run in (AB, BC, ("a", "c"), ALL)]
    calls += [(function, [DLIW, WHOLE]) for function in (nearest_with, nearest_without, parting_shelves)]


class Two(TwoShelves, unittest.TestCase):
    unlike, apart = Shelf(["a", "b", "c", "e"], ["a", "b", "c", "e"]), WILD
    pairs = [(is_between, [PLAIN, PLAIN, PLAIN], 1, [2], [2]), (many_between, [PLAIN, PLAIN], 1, [], []),
             (shelves_between, [PLAIN, PLAIN], 1, [], []), (middle, [PLAIN, PLAIN, PLAIN], 1, [], []),
             (middle, [PLAIN, PLAIN, PLAIN], 2, [], []), (fewest_days, [PLAIN, PLAIN], 1, [], None),
             (day_plan, [PLAIN, PLAIN], 1, [], None), (is_day_plan, [PLAIN, PLAIN, []], 1, [2], None),
             (busiest_books, [PLAIN, PLAIN], 1, [], [])]

    def test_the_order_of_errors_of_three_shelves(self):
        stranger, other = Shelf(["d", "c", "b", "a"], ABCD), Shelf(["z"], ["z"])
        for wrong in (None, [PLAIN], 0):
            check_error(self, middle, [PLAIN, stranger, wrong], errors.InvalidShelf, wrong)
            check_error(self, middle, [PLAIN, WILD, wrong], errors.InvalidShelf, wrong)
        check_error(self, middle, [PLAIN, stranger, other], errors.Unlike, stranger)
        check_error(self, middle, [PLAIN, WILD, stranger], errors.Unlike, stranger)
        check_error(self, middle, [PLAIN, WILD, DLIW], errors.Apart, WILD)
        check_error(self, middle, [PLAIN, PLAIN, DLIW], errors.Apart, DLIW)
        check_error(self, middle, [WILD, DLIW, PLAIN], errors.Apart, PLAIN)

    def test_no_plan_between_shelves_that_are_not_joined(self):
        self.assertEqual([fewest_days(WILD, PLAIN), day_plan(WILD, PLAIN)], [None, None])
        for value in ([], None, [[WHOLE]], [[]]):
            self.assertIs(is_day_plan(WILD, PLAIN, value), False)


def small_classes():
    drawn = drawn_of_small_class(8, (5, 6, 7, 9), 8, 100) + drawn_of_small_class(4, (12,), 30, 50)
    return classes_to_four() + [class_of(shelf) for shelf in drawn]


def some_pairs(told, many):
    """Some pairs of a class, a shelf and itself among them."""
    shelves = told.all()
    drawn = random.Random(len(shelves))
    pairs = [(shelves[0], shelves[0])] + [(one, other) for one in shelves for other in shelves]
    return pairs if len(pairs) <= many else pairs[:1] + drawn.sample(pairs, many)


class Between(unittest.TestCase):
    def test_all_shelves_of_classes(self):
        for told in small_classes():
            for one, other in some_pairs(told, 60):
                ahead, behind = told.layers_from(one), told.layers_from(other)
                fewest = ahead[row_key(other)]
                wanted = [shelf for row, shelf in told.shelves.items() if ahead[row] + behind[row] == fewest]
                self.assertTrue(same(many_between(one, other), len(wanted)))
                self.assertTrue(same(shelves_between(one, other), sorted(wanted, key=ranks)))
                for shelf in told.all()[::1 + len(told.shelves) // 20]:
                    self.assertIs(is_between(one, other, shelf), shelf in wanted)

    def test_any_object(self):
        for one, other in ((CAB, HOME), (LEFT, RIGHT), (WILD, DLIW), (ONE, ONE)):
            for value in any_objects():
                self.assertIs(is_between(one, other, value), value == CAB and one == CAB, repr(value))
        for value in (PLAIN, CAB, Shelf(["d", "c", "b", "a"], DLIW.row()), Shelf(ABCD, ["a", "b", "d", "c"])):
            self.assertIs(is_between(WILD, DLIW, value), False)

    def test_eight_turns_and_more(self):
        books = shelves_of_twelve()[0].catalogue()
        home = Shelf(books, books)
        within = shelf_of(home, sorted(tuple(books[:size]) for size in range(3, 11)))
        beside = shelf_of(home, sorted(tuple(books[at:at + 2]) for at in range(0, 12, 2)))
        self.assertEqual([many_between(home, within), many_between(home, beside)], [256, 64])
        self.assertEqual(len(shelves_between(home, within)), 256)
        late = shelf_of(home, sorted(tuple(books[at:at + 2]) for at in range(1, 9, 2)))
        early = shelf_of(home, sorted(tuple(books[at:at + 2]) for at in range(0, 8, 2)))
        shelves = shelves_between(early, late)
        self.assertEqual([many_between(early, late), many_between(late, early), len(shelves)], [55, 55, 55])
        self.assertEqual([ranks(shelf) for shelf in shelves], sorted(ranks(shelf) for shelf in shelves))
        self.assertEqual(many_between(home, filled(home)), 2 ** 11)


class Middle(unittest.TestCase):
    def test_all_threes_of_small_classes(self):
        drawn = random.Random(3)
        for told in small_classes():
            if len(told.shelves) < 60:
                layers = {row: told.layers_from(shelf) for row, shelf in told.shelves.items()}
                threes = list(itertools.product(told.shelves, repeat=3))
                for rows in threes if len(threes) < 300 else drawn.sample(threes, 150):
                    self.check_three(told, layers, rows)

    def check_three(self, told, layers, rows):
        def lies_between(row):
            return all(layers[one][row] + layers[row][other] == layers[one][other]
                       for one, other in itertools.combinations(rows, 2))
        found = [told.shelves[row] for row in told.shelves if lies_between(row)]
        self.assertEqual(len(found), 1)
        self.assertTrue(same(middle(*[told.shelves[row] for row in rows]), found[0]))
        sums = {row: sum(layers[row][one] for one in rows) for row in told.shelves}
        least = [row for row in sums if sums[row] == min(sums.values())]
        self.assertEqual(least, [row_key(found[0])])

    def test_drawn_shelves_of_twelve(self):
        drawn = random.Random(5)
        for shelf in drawn_shelves(1, (9, 12), 12):
            three = []
            for _ in range(3):
                reached = shelf
                for _ in range(9):
                    reached = slow_turned(reached, drawn.choice(slow_runs(reached)))
                three.append(reached)
            lots = [slow_awry(one) for one in three]
            wanted = sorted(run for run in set(sum(lots, [])) if sum(run in lot for lot in lots) > 1)
            self.assertEqual(slow_awry(middle(*three)), wanted)

    def test_equal_ones(self):
        for one, other in ((CAB, HOME), (WILD, DLIW), (ONE, ONE), (LEFT, CBA)):
            for three in ((one, one, other), (one, other, one), (other, one, one), (one, one, one)):
                self.assertTrue(same(middle(*three), one))


def day_turns(shelf):
    """All ascending lists, not empty, of runs of a shelf no two of which share a book, and the shelves behind them."""
    found, waiting = [], [([], shelf)]
    while waiting:
        day, reached = waiting.pop()
        for run in slow_runs(shelf):
            if (not day or run > day[-1]) and not any(set(run) & set(other) for other in day):
                longer = (day + [run], slow_turned(reached, run))
                found.append(longer)
                waiting.append(longer)
    return found


def day_layers(told, shelf):
    """The fewest days from a shelf to each row of its class, layer by layer."""
    layers, last = {row_key(shelf): 0}, [shelf]
    while last:
        reached = {row_key(other): other for one in last for _, other in day_turns(one)}
        last = [other for row, other in reached.items() if row not in layers]
        layers.update({row_key(other): max(layers.values()) + 1 for other in last})
    return layers


def is_plan(one, other, value):
    """Whether any object is a plan of days, however many."""
    if type(value) is not list:
        return False
    for day in value:
        shelves = [reached for turns, reached in day_turns(one) if same(turns, day)]
        if not shelves:
            return False
        one = shelves[0]
    return one == other


class Days(unittest.TestCase):
    def classes(self):
        drawn = [class_of(shelf) for shelf in drawn_of_small_class(8, (5, 6, 7), 8, 30)]
        return classes_to_four() + drawn

    def test_fewest_days_layer_by_layer(self):
        for told in self.classes():
            for one in told.all()[::1 + len(told.shelves) // 8]:
                layers = day_layers(told, one)
                for other in told.all():
                    self.check_two(one, other, layers[row_key(other)])

    def check_two(self, one, other, days):
        self.assertTrue(same(fewest_days(one, other), days))
        differing = sorted(set(slow_awry(one)) ^ set(slow_awry(other)))
        many = {book: sum(book in run for run in differing) for book in one.catalogue()}
        self.assertTrue(same(busiest_books(one, other), sorted(book for book in many if many[book] == days)))
        self.assertEqual(max(many.values()), days)
        plan = day_plan(one, other)
        self.assertEqual(len(plan), days)
        self.assertTrue(is_plan(one, other, plan))
        self.assertIs(is_day_plan(one, other, plan), True)
        self.check_bent(one, other, plan)

    def check_bent(self, one, other, plan):
        bent = [plan + [[]], plan[:-1], tuple(plan), [tuple(day) for day in plan], plan[::-1], plan[1:] + plan[:1],
                [day[::-1] for day in plan], [day + day[-1:] for day in plan], plan + plan[::-1],
                [list(run) for run in plan], [[run] for day in plan for run in day]]
        for run in slow_runs(one)[:3]:
            bent += [[[run]] + plan, plan + [[run]], [[run]] + plan[1:], plan[:-1] + [sorted(plan[-1:] + [[run]])]]
        for value in bent:
            wanted = len(value) == len(plan) and is_plan(one, other, value)
            self.assertIs(is_day_plan(one, other, value), wanted, value)

    def test_all_plans_of_two_days(self):
        for told in classes_to_four():
            shelves = told.all()
            for one in shelves[::5]:
                for first, reached in day_turns(one):
                    for second, other in day_turns(reached):
                        fewest = fewest_days(one, other)
                        self.assertLessEqual(fewest, 2)
                        self.assertIs(is_day_plan(one, other, [first, second]), fewest == 2)

    def test_drawn_shelves_of_twelve(self):
        drawn = random.Random(17)
        for shelf in drawn_shelves(1, (9, 12), 12) + shelves_of_twelve():
            for many in (1, 4, 12):
                other = shelf
                for _ in range(many):
                    other = slow_turned(other, drawn.choice(slow_runs(other)))
                differing = set(slow_awry(shelf)) ^ set(slow_awry(other))
                plan = day_plan(shelf, other)
                self.assertEqual(sorted(sum(plan, [])), sorted(differing))
                self.assertEqual(len(plan), fewest_days(shelf, other))
                self.assertEqual(len(plan), max(sum(book in run for run in differing) for book in shelf.row()))
                self.assertTrue(is_plan_of_turns(shelf, other, plan))
                self.assertIs(is_day_plan(shelf, other, plan), True)

    def test_the_farthest_shelves_of_twelve(self):
        books = shelves_of_twelve()[0].catalogue()
        home = Shelf(books, books)
        one = shelf_of(home, sorted(tuple(books[:size]) for size in range(2, 13)))
        other = shelf_of(home, sorted(tuple(books[start:]) for start in range(1, 11)))
        for first, last in ((one, other), (other, one)):
            plan = day_plan(first, last)
            self.assertEqual([len(plan), fewest_days(first, last)], [12, 12])
            self.assertTrue(is_plan_of_turns(first, last, plan))

    def test_a_shelf_and_itself(self):
        for shelf in (ONE, CAB, WILD, PLAIN):
            twin = Shelf(shelf.catalogue(), shelf.row())
            self.assertTrue(same([fewest_days(shelf, twin), day_plan(shelf, twin)], [0, []]))
            self.assertTrue(same(busiest_books(shelf, twin), sorted(shelf.catalogue())))
            self.assertIs(is_day_plan(shelf, twin, []), True)
            for value in ([[]], None, (), {}, [[tuple(shelf.catalogue())], [tuple(shelf.catalogue())]]):
                self.assertIs(is_day_plan(shelf, twin, value), False)

    def test_any_object(self):
        for one, other in ((CAB, CAB), (CAB, HOME), (HOME, LEFT), (LEFT, RIGHT), (WILD, DLIW), (ONE, ONE)):
            fewest = fewest_days(one, other)
            for value in any_objects():
                wanted = type(value) is list and len(value) == fewest and is_plan(one, other, value)
                self.assertIs(is_day_plan(one, other, value), wanted, repr(value))
                wanted = fewest == 1 and is_plan(one, other, [value])
                self.assertIs(is_day_plan(one, other, [value]), wanted, repr(value))


def is_plan_of_turns(one, other, plan):
    """Whether lists of runs are a plan of days, judged run by run."""
    for day in plan:
        runs, books = slow_runs(one), sum(map(list, day), [])
        if not day or day != sorted(day) or len(set(books)) < len(books) or not all(run in runs for run in day):
            return False
        for run in day:
            one = slow_turned(one, run)
    return one == other


class Nearest(unittest.TestCase):
    def runs(self, catalogue):
        return [run for size in range(2, len(catalogue) + 1) for run in itertools.combinations(catalogue, size)]

    def test_layer_by_layer(self):
        for told in small_classes():
            shelves = told.all()
            runs = self.runs(shelves[0].catalogue())
            if len(runs) > 60:
                runs = neighbours(shelves[0].catalogue()) + runs[::97]
            for shelf in shelves[::1 + len(shelves) // 6]:
                layers = told.layers_from(shelf)
                for run in runs:
                    self.check_run(told, shelf, layers, run)

    def check_run(self, told, shelf, layers, run):
        inside = [other for other in told.all() if run in slow_awry(other)]
        outside = [other for other in told.all() if run not in slow_awry(other)]
        for function, shelves in ((nearest_with, inside), (nearest_without, outside)):
            least = min((layers[row_key(other)] for other in shelves), default=None)
            nearest = [other for other in shelves if layers[row_key(other)] == least]
            self.assertLess(len(nearest), 2)
            self.assertTrue(same(function(shelf, run), nearest[0] if nearest else None))
        self.assertTrue(same(parting_shelves(shelf, run), (len(inside), len(outside))))

    def test_through_the_nearest_one(self):
        for told in small_classes()[::3]:
            shelf = told.all()[-1]
            layers = told.layers_from(shelf)
            for run in told.turnable():
                nearest = nearest_with(shelf, run)
                behind = told.layers_from(told.shelves[row_key(nearest)])
                for row, other in told.shelves.items():
                    if run in slow_awry(other):
                        self.assertEqual(layers[row], layers[row_key(nearest)] + behind[row])

    def test_drawn_shelves_of_twelve(self):
        for shelf in drawn_shelves(1, (9, 12), 12) + shelves_of_twelve():
            awry = slow_awry(shelf)
            for run in neighbours(shelf.catalogue())[::5]:
                found = nearest_with(shelf, run)
                if found is not None:
                    wanted = [other for other in awry if not overlap_as_sets(other, run) and other != run] + [run]
                    self.assertEqual(slow_awry(found), sorted(wanted))
                self.assertEqual(slow_awry(nearest_without(shelf, run)), [other for other in awry if other != run])


class Sums(unittest.TestCase):
    def test_sum_of_ways_layer_by_layer(self):
        for told in small_classes():
            for shelf in told.all()[::1 + len(told.shelves) // 10]:
                self.assertTrue(same(sum_of_ways(shelf), sum(told.layers_from(shelf).values())))

    def test_millions_of_shelves(self):
        rising, falling, crossed = shelves_of_twelve()[:3]
        books = rising.catalogue()
        pairs, whole = tuple(books[:2]), tuple(books)
        self.assertEqual(parting_shelves(rising, whole), (2646723, 2646723))
        # Shelves with two neighbours turned about are those in which both are one thing, of eleven.
        self.assertEqual(parting_shelves(falling, pairs), (1037718, 5293446 - 1037718))
        self.assertEqual(parting_shelves(crossed, pairs), (0, 2))
        self.assertEqual([sum_of_ways(crossed), sum_of_ways(ONE)], [1, 0])
        halves = [parting_shelves(rising, run) for run in neighbours(books)]
        self.assertEqual(sum_of_ways(rising), sum(half[0] for half in halves))
        self.assertEqual(sum_of_ways(falling), sum(half[0] for half in halves))

    def test_both_halves_are_the_whole_class(self):
        for shelf in many_shelves():
            told = Class(shelf, 30)
            if told.whole and len(shelf.row()) > 1:
                for run in neighbours(shelf.catalogue()):
                    self.assertEqual(sum(parting_shelves(shelf, run)), len(told.shelves))
