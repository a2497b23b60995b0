"""Points [80] to [86]: what is let under several catalogues, common runs and knots, and what their turns join."""

import functools
import itertools
import random
import unittest

from runturns import catalogues as module, errors
from runturns.catalogues import alike_for_all, common_awry, common_distance, common_home, common_joined, common_knots
from runturns.catalogues import common_runs, common_shelf, common_way, first_parting, is_common_run, is_common_way
from runturns.catalogues import is_parting_run, least_beside, let_lots, needless, parting_lots, parting_run
from runturns.homes import are_joined, awry_runs, home_of
from runturns.knots import kind_of, knots, sign_of
from runturns.runs import all_runs
from runturns.shelves import Shelf
from runturns.ways import fewest_turns
from tests.calls import Names, RightCalls, TwoShelves
from tests.helpers import ABC, Arguments, WrongArguments, any_objects, catalogue_is_right, check_error, is_one_of
from tests.helpers import is_shelf, same, shelves_of
from tests.slow import drawn_shelves, many_shelves, neighbours, overlap_as_sets, row_key, shelves_of_twelve, slow_runs
from tests.slow import slow_turned

HOME, LEFT, CAB = [Shelf(ABC, list(row)) for row in ("abc", "bac", "cab")]
ABCD, ONE = ["a", "b", "c", "d"], Shelf(["z"], ["z"])
WILD, DLIW, PLAIN = Shelf(ABCD, ["b", "d", "a", "c"]), Shelf(ABCD, ["c", "a", "d", "b"]), Shelf(ABCD, ABCD)
AB, BC, ALL = ("a", "b"), ("b", "c"), ("a", "b", "c")
BCA, BACD = [["b", "c", "a"]], [["b", "a", "c", "d"]]
INTERFACE = {
    "let_lots": ["catalogue", "beside"], "common_runs": ["shelf", "beside"],
    "is_common_run": ["shelf", "beside", "value"], "common_knots": ["shelf", "beside"],
    "common_awry": ["shelf", "beside"], "common_home": ["shelf", "beside"], "common_shelf": ["shelf", "beside", "lot"],
    "common_joined": ["shelf", "other", "beside"], "common_distance": ["shelf", "other", "beside"],
    "common_way": ["shelf", "other", "beside"], "is_common_way": ["shelf", "other", "beside", "value"],
    "first_parting": ["shelf", "other", "beside"], "parting_lots": ["shelf", "other", "beside"],
    "needless": ["catalogue", "beside"], "least_beside": ["catalogue", "beside"],
    "alike_for_all": ["catalogue", "beside", "others"], "parting_run": ["catalogue", "beside", "others"],
    "is_parting_run": ["catalogue", "beside", "others", "value"]}


def are_beside_abc(value):
    return type(value) is list and all(catalogue_is_right(one) and sorted(one) == ABC for one in value)


def is_lot_of_bca(value):
    if type(value) is not list or not all(is_one_of([ALL, BC])(run) for run in value):
        return False
    return value == sorted(set(value))


SHELF = (CAB, errors.InvalidShelf, is_shelf)
CATALOGUE = (ABC, errors.InvalidCatalogue, catalogue_is_right)
BESIDE = (BCA, errors.InvalidCatalogues, are_beside_abc)
VALUE = ([ALL], None, None)


class WrongInputs(WrongArguments, Names, unittest.TestCase):
    module = module
    interface = INTERFACE
    told = [Arguments(function, SHELF, BESIDE)
            for function in (common_runs, common_knots, common_awry, common_home)] + \
        [Arguments(function, SHELF, SHELF, BESIDE)
         for function in (common_joined, common_distance, common_way, first_parting, parting_lots)] + \
        [Arguments(function, CATALOGUE, BESIDE) for function in (let_lots, needless, least_beside)] + \
        [Arguments(function, CATALOGUE, BESIDE, BESIDE) for function in (alike_for_all, parting_run)] + \
        [Arguments(is_parting_run, CATALOGUE, BESIDE, BESIDE, VALUE), Arguments(is_common_run, SHELF, BESIDE, VALUE),
         Arguments(is_common_way, SHELF, SHELF, BESIDE, VALUE),
         Arguments(common_shelf, SHELF, BESIDE, ([ALL], errors.InvalidLot, is_lot_of_bca))]

    def test_catalogues_that_are_none(self):
        wrong = [(), ABC, [tuple(ABC)], [["a", "b"]], [["a", "b", "c", "d"]], [["a", "b", "b"]], [[]], [None],
                 [["a", "b", "x"]], [ABC, None], [ABC, ["a"]], {0: ABC}, None, "abc", True, [CAB], [[ABC]]]
        for beside in wrong:
            for function in (common_runs, common_knots, common_awry, common_home):
                check_error(self, function, [CAB, beside], errors.InvalidCatalogues, beside)
            for function in (common_joined, common_distance, common_way, first_parting, parting_lots):
                check_error(self, function, [CAB, HOME, beside], errors.InvalidCatalogues, beside)
            for function in (let_lots, needless, least_beside):
                check_error(self, function, [ABC, beside], errors.InvalidCatalogues, beside)
            for function in (alike_for_all, parting_run):
                check_error(self, function, [ABC, beside, []], errors.InvalidCatalogues, beside)
                check_error(self, function, [ABC, [], beside], errors.InvalidCatalogues, beside)
        beside, others = [["z"]], [["y"]]
        check_error(self, alike_for_all, [ABC, beside, others], errors.InvalidCatalogues, beside)
        check_error(self, common_shelf, [CAB, beside, None], errors.InvalidCatalogues, beside)

    def test_lots_that_are_none(self):
        wrong = [[BC, ALL], [ALL, ALL], [AB], [ALL, AB], [("b", "a")], [("c", "b")], (ALL,), {ALL: 1}, ALL, None,
                 [None], [["b", "c"]], [("c", "a")], [()], [("a",)]]
        for lot in wrong:
            check_error(self, common_shelf, [CAB, BCA, lot], errors.InvalidLot, lot)
        # Under the own catalogue alone these are let.
        for lot in ([AB], [ALL, BC], [AB, BC], []):
            common_shelf(CAB, [], lot)
        lot = [("z",)]
        check_error(self, common_shelf, [ONE, [], lot], errors.InvalidLot, lot)


class Calls(RightCalls, unittest.TestCase):
    calls = [(function, [shelf, beside]) for function in (common_runs, common_knots, common_awry, common_home)
             for shelf, beside in ((CAB, BCA), (CAB, []), (DLIW, BACD), (ONE, [["z"]]), (LEFT, [ABC, ABC[::-1]]))]
    calls += [(function, [shelf, other, beside])
              for function in (common_joined, common_distance, common_way, first_parting, parting_lots)
              for shelf, other, beside in ((LEFT, CAB, BCA), (LEFT, HOME, BCA), (LEFT, HOME, []), (ONE, ONE, []),
                                           (WILD, PLAIN, BACD), (LEFT, HOME, [ABC] + BCA + BCA))]
    calls += [(function, [catalogue, beside]) for function in (let_lots, needless, least_beside)
              for catalogue, beside in ((ABC, []), (ABC, BCA), (ABC, [["c", "b", "a"]] + BCA), (["z"], [["z"]]))]
    calls += [(function, [ABC, beside, others]) for function in (alike_for_all, parting_run)
              for beside, others in (([], []), ([], BCA), (BCA, [ABC]), (BCA, BCA + BCA))]
    calls += [(is_common_run, [CAB, BCA, ALL]), (is_common_run, [CAB, BCA, AB]), (is_common_run, [CAB, BCA, [ALL]]),
              (is_common_way, [LEFT, CAB, BCA, [ALL]]), (is_common_way, [LEFT, CAB, BCA, {"a": [1]}]),
              (common_shelf, [LEFT, BCA, [ALL]]), (common_shelf, [LEFT, BCA, [BC]]), (common_shelf, [ONE, [], []]),
              (is_parting_run, [ABC, [], BCA, (LEFT, AB)]), (is_parting_run, [ABC, [], BCA, [LEFT, AB]])]


class Two(TwoShelves, unittest.TestCase):
    unlike, apart = Shelf(["a", "b", "c", "e"], ["a", "b", "c", "e"]), WILD
    pairs = [(function, [PLAIN, PLAIN, BACD], 1, [2], None)
             for function in (common_joined, common_distance, common_way, first_parting, parting_lots)] + \
        [(is_common_way, [PLAIN, PLAIN, BACD, []], 1, [2, 3], None)]


def slow_common_runs(shelf, beside):
    """Runs of the row whose books stand side by side in each catalogue."""
    def side_by_side(catalogue, run):
        places = sorted(catalogue.index(book) for book in run)
        return places == list(range(places[0], places[0] + len(places)))
    return [run for run in slow_runs(shelf) if all(side_by_side(catalogue, run) for catalogue in beside)]


class CommonClass:
    """All shelves to which turns of common runs lead from one, and what is told of them by the document's words."""

    def __init__(self, shelf, beside):
        self.beside = beside
        self.shelves, self.turns, waiting = {row_key(shelf): shelf}, {}, [shelf]
        while waiting:
            one = waiting.pop()
            self.turns[row_key(one)] = {}
            for run in slow_common_runs(one, beside):
                other = slow_turned(one, run)
                self.turns[row_key(one)][run] = row_key(other)
                if row_key(other) not in self.shelves:
                    self.shelves[row_key(other)] = other
                    waiting.append(other)
        self.awry = {row: slow_common_awry(one, beside) for row, one in self.shelves.items()}

    def layers_from(self, shelf):
        layers, last = {row_key(shelf): 0}, [row_key(shelf)]
        while last:
            later = {reached for row in last for reached in self.turns[row].values() if reached not in layers}
            layers.update({row: layers[last[0]] + 1 for row in later})
            last = sorted(later)
        return layers


def slow_common_knots(shelf, beside):
    """[82]: tuples of a kind and a sign by the common knots of two books or more."""
    runs, row, catalogue = slow_common_runs(shelf, beside), shelf.row(), shelf.catalogue()
    free = [run for run in runs if not any(overlap_as_sets(run, other) for other in runs)]
    knots_of_all = sorted(set(free + [tuple(catalogue)] + [(book,) for book in catalogue]))
    told = {}
    for knot in knots_of_all:
        within = [other for other in knots_of_all if set(other) < set(knot)]
        parts = [one for one in within if not any(set(one) < set(other) for other in within)]
        parts.sort(key=lambda part: min(row.index(book) for book in part))
        if len(knot) > 1:
            pairs = [sorted(one + other) for one, other in zip(parts, parts[1:])]
            straight = len(parts) == 2 or any(sorted(run) in pairs for run in runs)
            entries = [catalogue.index(parts[at][0]) for at in (0, -1)]
            told[knot] = ("straight" if straight else "crossed", "+" if entries[0] < entries[1] else "-")
    return told


def slow_common_awry(shelf, beside):
    told, found = slow_common_knots(shelf, beside), []
    for knot in told:
        around = min((other for other in told if set(knot) < set(other)), key=len, default=None)
        if told[knot][1] != ("+" if around is None else told[around][1]):
            found.append(knot)
    return found


def drawn_beside(drawn, catalogue):
    """Catalogues beside one: none, itself, its contrary, several alike, near ones and any ones."""
    def near():
        row = list(catalogue)
        for _ in range(drawn.randint(1, 2)):
            start = drawn.randrange(len(row))
            end = drawn.randint(start + 1, len(row))
            row[start:end] = row[start:end][::-1]
        return row
    lists = [[], [list(catalogue)], [list(catalogue)[::-1]], [near()], [near(), near()], [near(), near(), near()]]
    one = near()
    lists += [[one, list(one), one[::-1]], [one, list(catalogue), near()]]
    lists += [[drawn.sample(catalogue, len(catalogue)) for _ in range(many)] for many in (1, 2, 3)]
    return lists


@functools.lru_cache(None)
def small_cases():
    """Catalogues of at most four books, lists beside them, and all classes of their shelves."""
    drawn, cases = random.Random(23), []
    for catalogue in (["q"], ["b", "a"], ["b", "c", "a"], ["c", "a", "d", "b"]):
        for beside in drawn_beside(drawn, catalogue):
            shelves, classes = {row_key(shelf): shelf for shelf in shelves_of(catalogue)}, []
            while shelves:
                told = CommonClass(next(iter(shelves.values())), beside)
                classes.append(told)
                shelves = {row: shelf for row, shelf in shelves.items() if row not in told.shelves}
            cases.append((catalogue, beside, classes))
    return cases


@functools.lru_cache(None)
def drawn_cases():
    """Drawn shelves, lists of catalogues beside theirs, and their classes where these are small."""
    drawn, cases = random.Random(29), []
    for shelf in drawn_shelves(1, (5, 6, 7, 9, 12), 4) + shelves_of_twelve():
        for beside in drawn_beside(drawn, shelf.catalogue())[3:]:
            lots = slow_common_runs(Shelf(shelf.catalogue(), shelf.catalogue()), beside)
            cases.append((shelf, beside, CommonClass(shelf, beside) if len(lots) < 9 else None))
    return cases


class Let(unittest.TestCase):
    def test_let_lots(self):
        drawn = random.Random(31)
        for shelf in many_shelves()[::4]:
            catalogue = shelf.catalogue()
            for beside in drawn_beside(drawn, catalogue):
                wanted = slow_common_runs(Shelf(catalogue, catalogue), beside)
                self.assertTrue(same(let_lots(catalogue, beside), wanted))
                self.assertTrue(same(let_lots(catalogue, beside[::-1]), wanted))

    def test_let_lots_are_the_runs_that_some_shelf_has(self):
        for catalogue, beside, classes in small_cases():
            runs = {run for told in classes for turns in told.turns.values() for run in turns}
            self.assertEqual(let_lots(catalogue, beside), sorted(runs))

    def test_needless_and_least_beside(self):
        drawn = random.Random(37)
        for shelf in many_shelves()[::3]:
            catalogue = shelf.catalogue()
            for beside in drawn_beside(drawn, catalogue):
                lots, positions = let_lots(catalogue, beside), range(len(beside))
                enough = [set(lot) for size in range(len(beside) + 1) for lot in itertools.combinations(positions, size)
                          if let_lots(catalogue, [beside[at] for at in lot]) == lots]
                self.assertTrue(same(needless(catalogue, beside),
                                     [at for at in positions if set(positions) - {at} in enough]))
                least = sorted(sorted(lot) for lot in enough if not any(other < lot for other in enough))
                self.assertTrue(same(least_beside(catalogue, beside), least))

    def test_beside_at_the_edges(self):
        backward, other = ABC[::-1], ["b", "c", "a"]
        self.assertEqual([needless(ABC, []), least_beside(ABC, [])], [[], [[]]])
        self.assertEqual([needless(ABC, [ABC]), least_beside(ABC, [ABC, backward])], [[0], [[]]])
        self.assertEqual([needless(ABC, [other]), least_beside(ABC, [other])], [[], [[0]]])
        self.assertEqual([needless(ABC, [other, other]), least_beside(ABC, [other, other[::-1]])], [[0, 1], [[0], [1]]])
        self.assertEqual([let_lots(["z"], [["z"], ["z"]]), let_lots(["b", "a"], [["a", "b"]])], [[], [("b", "a")]])


class Alike(unittest.TestCase):
    def test_all_shelves_of_small_catalogues(self):
        by_catalogue = {}
        for catalogue, beside, classes in small_cases():
            runs = {row: told.turns[row] for told in classes for row in told.turns}
            by_catalogue.setdefault(tuple(catalogue), []).append((beside, runs))
        for catalogue, told in by_catalogue.items():
            for (beside, runs), (others, other_runs) in itertools.product(told, repeat=2):
                self.check_two(list(catalogue), beside, others, runs, other_runs)

    def check_two(self, catalogue, beside, others, runs, other_runs):
        alike = all(sorted(runs[row]) == sorted(other_runs[row]) for row in runs)
        self.assertIs(alike_for_all(catalogue, beside, others), alike)
        found = parting_run(catalogue, beside, others)
        self.assertEqual(found is None, alike)
        self.assertIs(is_parting_run(catalogue, beside, others, found), not alike)
        for row in runs:
            shelf = Shelf(catalogue, list(row))
            for run in neighbours(catalogue):
                wanted = (run in runs[row]) != (run in other_runs[row])
                self.assertIs(is_parting_run(catalogue, beside, others, (shelf, run)), wanted)

    def test_larger_catalogues(self):
        drawn = random.Random(43)
        for shelf in drawn_shelves(1, (7, 9, 12), 12)[::3]:
            catalogue = shelf.catalogue()
            for beside, others in itertools.combinations(drawn_beside(drawn, catalogue), 2):
                alike = let_lots(catalogue, beside) == let_lots(catalogue, others)
                self.assertIs(alike_for_all(catalogue, beside, others), alike)
                found = parting_run(catalogue, beside, others)
                self.assertEqual(found is None, alike)
                if found is not None:
                    self.assertEqual([type(found), len(found), found[0].catalogue()], [tuple, 2, catalogue])
                    told = [found[1] in slow_common_runs(found[0], lot) for lot in (beside, others)]
                    self.assertNotEqual(told[0], told[1])
                    self.assertIs(is_parting_run(catalogue, others, beside, found), True)

    def test_is_parting_run_with_any_object(self):
        for value in any_objects():
            self.assertIs(is_parting_run(ABC, [], BCA, value), False, repr(value))
            wanted = is_one_of([AB])(value)
            self.assertIs(is_parting_run(ABC, [], BCA, (CAB, value)), wanted, repr(value))
            self.assertIs(is_parting_run(ABC, [], BCA, (value, AB)), is_shelf(value) and value == CAB, repr(value))
        for value in ([CAB, AB], (CAB, AB, AB), (CAB,), (Shelf(["b", "a", "c"], ABC), ("b", "a")), None,
                      (Shelf(ABC, ["a", "c", "b"]), AB), (Shelf(["a", "b"], ["a", "b"]), AB)):
            self.assertIs(is_parting_run(ABC, [], BCA, value), False)


class Knots(unittest.TestCase):
    def check_shelf(self, shelf, beside):
        runs = slow_common_runs(shelf, beside)
        self.assertTrue(same(common_runs(shelf, beside), runs))
        for run in neighbours(shelf.catalogue())[::3] + runs:
            self.assertIs(is_common_run(shelf, beside, run), run in runs)
        self.assertTrue(same(common_knots(shelf, beside), slow_common_knots(shelf, beside)))
        self.assertTrue(same(common_awry(shelf, beside), slow_common_awry(shelf, beside)))

    def test_all_shelves_of_small_catalogues(self):
        for _, beside, classes in small_cases():
            for told in classes:
                for shelf in told.shelves.values():
                    self.check_shelf(shelf, beside)

    def test_drawn_shelves(self):
        for shelf, beside, _ in drawn_cases():
            self.check_shelf(shelf, beside)

    def test_crossed_knots_of_three_parts(self):
        shelf = Shelf(ABC, ["b", "a", "c"])
        self.assertEqual(common_knots(shelf, BCA), {ALL: ("crossed", "+")})
        # Two of them side by side within one, and one within another.
        books = list("abcdef")
        shelf, beside = Shelf(books, list("bacedf")), [list("bcaefd")]
        wanted = {("a", "b", "c"): ("crossed", "+"), tuple(books): ("straight", "+"), ("d", "e", "f"): ("crossed", "+")}
        self.assertEqual(common_knots(shelf, beside), wanted)
        shelf, beside = Shelf(ABCD, list("bcad")), [list("bcda")]
        self.assertEqual(common_knots(shelf, beside), {tuple(ABCD): ("crossed", "+"), BC: ("straight", "+")})

    def test_without_others_beside(self):
        for shelf in many_shelves()[::5]:
            for beside in ([], [shelf.catalogue()], [shelf.catalogue()[::-1], shelf.catalogue()]):
                self.assertEqual(common_runs(shelf, beside), all_runs(shelf))
                kinds = {"rising": "straight", "falling": "straight", "crossed": "crossed"}
                wanted = {knot: (kinds[kind_of(shelf, knot)], sign_of(shelf, knot))
                          for knot in knots(shelf) if len(knot) > 1}
                self.assertTrue(same(common_knots(shelf, beside), wanted))
                self.assertEqual([common_awry(shelf, beside), common_home(shelf, beside)],
                                 [awry_runs(shelf), home_of(shelf)])

    def test_is_common_run_with_any_object(self):
        for shelf, beside in ((CAB, BCA), (HOME, BCA), (LEFT, []), (ONE, []), (WILD, BACD)):
            judge = is_one_of(slow_common_runs(shelf, beside))
            for value in any_objects():
                self.assertIs(is_common_run(shelf, beside, value), judge(value), repr(value))


class Turns(unittest.TestCase):
    def test_a_turn_adds_one_or_takes_one_out(self):
        for told in [told for _, _, classes in small_cases() for told in classes]:
            for row, turns in told.turns.items():
                for run, reached in turns.items():
                    self.assertEqual(set(told.awry[row]) ^ set(told.awry[reached]), {run})

    def classes(self):
        small = [told for _, _, classes in small_cases() for told in classes]
        return small + [told for _, _, told in drawn_cases() if told is not None]

    def test_homes_and_shelves_of_lots(self):
        for told in self.classes():
            homes = [shelf for row, shelf in told.shelves.items() if told.awry[row] == []]
            self.assertEqual(len(homes), 1)
            catalogue = homes[0].catalogue()
            lots = let_lots(catalogue, told.beside)
            by_awry = {tuple(awry): told.shelves[row] for row, awry in told.awry.items()}
            for shelf in list(told.shelves.values())[::1 + len(told.shelves) // 4]:
                self.assertTrue(same(common_home(shelf, told.beside), homes[0]))
                for size in range(len(lots) + 1):
                    for lot in list(itertools.combinations(lots, size))[::1 + size // 3]:
                        wanted = by_awry.get(lot)
                        self.assertTrue(same(common_shelf(shelf, told.beside, list(lot)), wanted))

    def test_each_two_joined_shelves(self):
        for told in self.classes():
            shelves = list(told.shelves.values())
            for one in shelves[::1 + len(shelves) // 3]:
                layers = told.layers_from(one)
                for other in shelves[::1 + len(shelves) // 7]:
                    self.check_two(told, one, other, layers[row_key(other)])

    def check_two(self, told, one, other, fewest):
        beside = told.beside
        self.assertIs(common_joined(one, other, beside), True)
        self.assertTrue(same(common_distance(one, other, beside), fewest))
        self.assertEqual(len(set(told.awry[row_key(one)]) ^ set(told.awry[row_key(other)])), fewest)
        way = common_way(one, other, beside)
        self.assertEqual([len(way), self.is_way(told, one, other, way)], [fewest, True])
        bent = [way, tuple(way), way[::-1], way[:-1], way[1:] + way[:1], way + way, [list(run) for run in way]]
        for run in told.turns[row_key(one)]:
            bent += [[run] + way[1:], [run] + way, [run, run] + way]
        for value in bent:
            wanted = len(value) == fewest and self.is_way(told, one, other, value)
            self.assertIs(is_common_way(one, other, beside, value), wanted)

    def is_way(self, told, one, other, value):
        row = row_key(one)
        for run in value:
            if not is_one_of(told.turns[row])(run):
                return False
            row = told.turns[row][run]
        return type(value) is list and row == row_key(other)

    def test_shelves_that_are_not_joined(self):
        for catalogue, beside, classes in small_cases():
            for told, other in itertools.permutations(classes, 2):
                one, two = list(told.shelves.values())[0], list(other.shelves.values())[-1]
                self.assertIs(common_joined(one, two, beside), False)
                self.assertEqual([common_distance(one, two, beside), common_way(one, two, beside)], [None, None])
                for value in ([], None, [tuple(catalogue)]):
                    self.assertIs(is_common_way(one, two, beside, value), False)

    def test_is_common_way_with_any_object(self):
        for one, other, beside in ((LEFT, CAB, BCA), (CAB, CAB, BCA), (HOME, LEFT, []), (ONE, ONE, [])):
            told = CommonClass(one, beside)
            fewest = told.layers_from(one)[row_key(other)]
            for value in any_objects():
                wanted = type(value) is list and len(value) == fewest and self.is_way(told, one, other, value)
                self.assertIs(is_common_way(one, other, beside, value), wanted, repr(value))

    def test_without_others_beside(self):
        for shelf in many_shelves()[::9]:
            for other in (home_of(shelf), shelf, Shelf(shelf.catalogue(), shelf.row()[::-1])):
                self.assertEqual(common_distance(shelf, other, []), fewest_turns(shelf, other))


class Partings(unittest.TestCase):
    def pairs(self):
        drawn = random.Random(47)
        for catalogue, beside, classes in small_cases():
            shelves = [shelf for told in classes for shelf in told.shelves.values()]
            for _ in range(12):
                yield drawn.choice(shelves), drawn.choice(shelves), beside
        for shelf, beside, told in drawn_cases():
            yield shelf, home_of(shelf), beside
            yield shelf, common_home(shelf, beside), beside
            yield shelf, common_home(shelf, beside[:1]), beside
            yield shelf, Shelf(shelf.catalogue(), shelf.catalogue()), beside

    def test_first_parting_and_parting_lots(self):
        for one, other, beside in self.pairs():
            firsts = [many for many in range(len(beside) + 1) if not common_joined(one, other, beside[:many])]
            self.assertTrue(same(first_parting(one, other, beside), firsts[0] if firsts else None))
            positions = range(len(beside))
            parted = [set(lot) for size in range(len(beside) + 1) for lot in itertools.combinations(positions, size)
                      if not common_joined(one, other, [beside[at] for at in lot])]
            least = sorted(sorted(lot) for lot in parted if not any(other_lot < lot for other_lot in parted))
            self.assertTrue(same(parting_lots(one, other, beside), least))
            # Joined under the own catalogue and each one beside means joined under all.
            self.assertTrue(all(len(lot) < 2 for lot in least))

    def test_the_edges(self):
        for beside in ([], BACD, BACD + [ABCD]):
            self.assertTrue(same([first_parting(WILD, PLAIN, beside), parting_lots(WILD, PLAIN, beside)], [0, [[]]]))
            self.assertEqual([first_parting(WILD, WILD, beside), parting_lots(WILD, WILD, beside)], [None, []])
        self.assertIs(are_joined(LEFT, HOME), True)
        self.assertEqual([first_parting(LEFT, HOME, [ABC, ABC[::-1]]), parting_lots(LEFT, HOME, [ABC])], [None, []])
        beside = [ABC] + BCA + [ABC[::-1]] + BCA
        self.assertEqual([first_parting(LEFT, HOME, beside), parting_lots(LEFT, HOME, beside)], [2, [[1], [3]]])
