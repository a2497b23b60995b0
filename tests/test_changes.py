"""Points [87] to [92]: what books put in and taken out change, and which books and changes part and join shelves."""

import functools
import itertools
import random
import unittest

from runturns import changes as module, errors
from runturns.changes import best_places, joined_places, joining_lots, kept_runs, lessened, lost_runs, lot_shelf
from runturns.changes import lot_without, meeting_changes, new_runs, parting_changes, put_for, rest_runs, run_spread
from runturns.changes import sorting_entries, turns_at, turns_listed
from runturns.homes import are_joined, core_of, home_of
from runturns.lots import faces
from runturns.shelves import Shelf, changed, changed_by, cut_to
from tests.calls import Names, RightCalls, TwoShelves
from tests.helpers import ABC, FITTING, Arguments, WrongArguments, any_objects, are_changes_by_form, book_is_right
from tests.helpers import check_error, count_is_right, fits_cab, is_one_of, is_shelf, same
from tests.slow import class_of, drawn_shelves, many_shelves, row_key, shelf_of_ranks, shelves_of_twelve
from tests.slow import shelves_to_four, slow_awry, slow_core, slow_runs, slow_turned

HOME, LEFT, RIGHT, CAB = [Shelf(ABC, list(row)) for row in ("abc", "bac", "acb", "cab")]
ABCD, ONE = ["a", "b", "c", "d"], Shelf(["z"], ["z"])
WILD, DLIW, PLAIN = Shelf(ABCD, ["b", "d", "a", "c"]), Shelf(ABCD, ["c", "a", "d", "b"]), Shelf(ABCD, ABCD)
MIXED, PART = Shelf(ABCD, ["c", "a", "b", "d"]), Shelf(["x", "y"], ["y", "x"])
CHANGES = [("out", "a"), ("put", "x", 0, 1)]
INTERFACE = {
    "best_places": ["shelf", "book", "entry"], "joined_places": ["shelf", "book", "entry"],
    "joining_lots": ["one", "other"], "kept_runs": ["shelf", "change"], "lessened": ["one", "other", "book"],
    "lost_runs": ["shelf", "change"], "lot_shelf": ["shelf", "changes", "lot"], "lot_without": ["shelf", "book"],
    "meeting_changes": ["one", "other", "changes"], "new_runs": ["shelf", "change"],
    "parting_changes": ["one", "other", "changes"], "put_for": ["shelf", "book", "part"],
    "rest_runs": ["shelf", "book"], "run_spread": ["run", "book", "part"], "sorting_entries": ["shelf", "book"],
    "turns_at": ["shelf", "book", "entry"], "turns_listed": ["shelf", "book"]}


def is_new_book(value):
    return book_is_right(value) and value not in ABC


def is_tuple_of_books(value):
    return type(value) is tuple and len(value) > 1 and all(book_is_right(book) for book in value) and \
        len(set(value)) == len(value)


def is_lot_of_two(value):
    return type(value) is list and any(same(value, lot) for lot in ([], [0], [1], [0, 1]))


SHELF = (CAB, errors.InvalidShelf, is_shelf)
CHANGE = (("out", "a"), errors.InvalidChange, fits_cab)
BOOK = ("a", errors.InvalidBook, is_one_of(ABC))
NEW = ("x", errors.InvalidBook, is_new_book)
ENTRY = (1, errors.InvalidCount, count_is_right(0, 4))
LIST = (CHANGES, errors.InvalidChanges, are_changes_by_form)
PART_SHELF = (PART, errors.InvalidShelf, is_shelf)


class WrongInputs(WrongArguments, Names, unittest.TestCase):
    module = module
    interface = INTERFACE
    told = [Arguments(function, SHELF, CHANGE) for function in (kept_runs, lost_runs, new_runs)] + \
        [Arguments(function, SHELF, BOOK) for function in (rest_runs, lot_without, turns_listed, sorting_entries)] + \
        [Arguments(function, SHELF, NEW, ENTRY) for function in (turns_at, best_places, joined_places)] + \
        [Arguments(function, SHELF, SHELF, LIST) for function in (parting_changes, meeting_changes)] + \
        [Arguments(lessened, SHELF, SHELF, BOOK), Arguments(joining_lots, SHELF, SHELF),
         Arguments(put_for, SHELF, BOOK, PART_SHELF),
         Arguments(run_spread, (("a", "b"), errors.InvalidRun, is_tuple_of_books),
                   ("a", errors.InvalidBook, book_is_right), PART_SHELF),
         Arguments(lot_shelf, SHELF, LIST, ([0, 1], errors.InvalidLot, is_lot_of_two))]

    def test_the_last_book_of_a_shelf(self):
        for function in (rest_runs, lot_without):
            check_error(self, function, [ONE, "z"], errors.InvalidBook, "z")
        for other in (None, [ONE], "z"):
            check_error(self, lessened, [ONE, other, "z"], errors.InvalidShelf, other)
        check_error(self, lessened, [ONE, ONE, "z"], errors.InvalidBook, "z")
        for function in (kept_runs, lost_runs, new_runs):
            change = ("out", "z")
            check_error(self, function, [ONE, change], errors.InvalidChange, change)
        self.assertEqual([turns_listed(ONE, "z"), sorting_entries(ONE, "z")], [[0], [0]])

    def test_changes_that_do_not_fit(self):
        for change in (("put", "a", 0, 0), ("put", "x", 4, 0), ("put", "x", 0, 4), ("out", "x"), ("move", "a", 1),
                       ("move", "a", 3), ("move", "x", 0), ("list", "a", 0), ("list", "a", 3), ("list", "x", 0)):
            for function in (kept_runs, lost_runs, new_runs):
                check_error(self, function, [CAB, change], errors.InvalidChange, change)

    def test_entries_beyond_the_last(self):
        for function in (turns_at, best_places, joined_places):
            for shelf in (ONE, CAB, WILD) + tuple(shelves_of_twelve()[:2]):
                many = len(shelf.row())
                for entry in (many + 1, -1, True, False, None, "0", [0], 10 ** 29):
                    check_error(self, function, [shelf, "x", entry], errors.InvalidCount, entry)
                for book in (shelf.row()[-1], "", "X", "abcdefghi", None, ["x"], 0):
                    check_error(self, function, [shelf, book, many + 1], errors.InvalidBook, book)
                self.assertEqual(len(turns_at(shelf, "x", many)), many + 1)

    def test_parts_that_cannot_be_put_in(self):
        for part in (Shelf(["b"], ["b"]), Shelf(["x", "b"], ["b", "x"]), Shelf(["a", "x", "c"], ["a", "x", "c"]), CAB):
            check_error(self, put_for, [CAB, "a", part], errors.Refused, part)
            check_error(self, run_spread, [("a", "c", "b"), "a", part], errors.Refused, part)
            check_error(self, put_for, [CAB, "x", part], errors.InvalidBook, "x")
        # Also where the run does not hold the book.
        part = Shelf(["x", "b"], ["x", "b"])
        check_error(self, run_spread, [("a", "b"), "c", part], errors.Refused, part)
        check_error(self, run_spread, [("a", "b"), "x", part], errors.Refused, part)
        self.assertEqual(run_spread(("a", "b"), "b", part), ("a", "x", "b"))
        self.assertEqual(run_spread(("a", "b"), "c", Shelf(["c"], ["c"])), ("a", "b"))

    def test_lots_that_are_none(self):
        for lot in ([1, 0], [0, 0], [2], [-1], [True], [False], (0,), {0: 1}, 0, None, "0", [None], [[0]], [0, "1"]):
            check_error(self, lot_shelf, [CAB, CHANGES, lot], errors.InvalidLot, lot)
        for lot in ([0], [True], None):
            check_error(self, lot_shelf, [CAB, [], lot], errors.InvalidLot, lot)
        self.assertTrue(same(lot_shelf(CAB, [], []), CAB))

    def test_lists_of_changes_that_are_none(self):
        for changes in ((("out", "a"),), [("out",)], [("out", "a"), None], None, {0: ("out", "a")}, [["out", "a"]],
                        "ab", [("put", "x", True, 0)], [("move", "a", -1)]):
            check_error(self, lot_shelf, [CAB, changes, [7]], errors.InvalidChanges, changes)
            for function in (parting_changes, meeting_changes):
                check_error(self, function, [CAB, HOME, changes], errors.InvalidChanges, changes)
                check_error(self, function, [WILD, PLAIN, changes], errors.InvalidChanges, changes)


class Calls(RightCalls, unittest.TestCase):
    calls = [(function, [CAB, change]) for function in (kept_runs, lost_runs, new_runs) for change in FITTING]
    calls += [(function, [shelf, book])
              for function in (rest_runs, lot_without, turns_listed, sorting_entries)
              for shelf, book in ((CAB, "a"), (WILD, "b"), (MIXED, "d"))]
    calls += [(function, [shelf, "x", entry]) for function in (turns_at, best_places, joined_places)
              for shelf, entry in ((LEFT, 3), (ONE, 0), (WILD, 2))]
    calls += [(function, [one, other, changes]) for function in (parting_changes, meeting_changes)
              for one, other, changes in ((LEFT, RIGHT, [("put", "x", 3, 1)]), (WILD, MIXED, [("out", "a")] + CHANGES),
                                          (ONE, ONE, []))]
    calls += [(lessened, [LEFT, RIGHT, "b"]), (joining_lots, [WILD, PLAIN]), (joining_lots, [ONE, ONE]),
              (put_for, [CAB, "a", PART]), (put_for, [ONE, "z", CAB]), (run_spread, [("a", "b"), "b", PART]),
              (run_spread, [("a", "b"), "c", PART]), (lot_shelf, [CAB, CHANGES, [0, 1]]),
              (lot_shelf, [CAB, CHANGES + CHANGES, [0, 2]]), (lot_shelf, [CAB, [], []])]


class Two(TwoShelves, unittest.TestCase):
    unlike, apart = Shelf(["a", "b", "c", "e"], ["a", "b", "c", "e"]), WILD
    pairs = [(lessened, [PLAIN, PLAIN, "a"], 1, [2], []), (joining_lots, [PLAIN, PLAIN], 1, [], None),
             (parting_changes, [PLAIN, PLAIN, CHANGES], 1, [2], None),
             (meeting_changes, [PLAIN, PLAIN, CHANGES], 1, [2], None)]

    def test_apart_comes_behind_books_that_are_none(self):
        for book in ("x", "", None, ["a"], True):
            check_error(self, lessened, [PLAIN, WILD, book], errors.InvalidBook, book)
        check_error(self, lessened, [PLAIN, WILD, "d"], errors.Apart, WILD)


def fitting_changes(shelf):
    """All changes that fit a shelf, of one new book."""
    row, catalogue = shelf.row(), shelf.catalogue()
    places = range(len(row) + 1)
    found = [("put", "new", entry, place) for entry in places for place in places]
    found += [("out", book) for book in row if len(row) > 1]
    found += [("move", book, place) for book in row for place in range(len(row)) if row[place] != book]
    return found + [("list", book, at) for book in row for at in range(len(row)) if catalogue[at] != book]


class Runs(unittest.TestCase):
    def check_change(self, shelf, change):
        runs, made = slow_runs(shelf), changed(shelf, change)
        behind, book = [set(run) for run in slow_runs(made)], change[1]
        forms = {run: [set(run)] for run in runs}
        if change[0] == "out":
            forms = {run: [set(run) - {book}] for run in runs}
        if change[0] == "put":
            forms = {run: [set(run), set(run) | {book}] for run in runs}
        kept = [run for run in runs if any(form in behind for form in forms[run])]
        came = [form for run in runs for form in forms[run]]
        self.assertTrue(same(kept_runs(shelf, change), kept))
        lost = [run for run in runs if run not in kept]
        self.assertTrue(same(lost_runs(shelf, change), lost))
        new = [run for run in slow_runs(made) if set(run) not in came]
        self.assertTrue(same(new_runs(shelf, change), new))
        if change[0] == "out":
            self.assertEqual(lost, [run for run in runs if len(run) == 2 and book in run])
        if change[0] == "put":
            self.assertEqual(new, [run for run in slow_runs(made) if len(run) == 2 and book in run])

    def test_all_changes_of_small_shelves(self):
        for shelf in shelves_to_four():
            for change in fitting_changes(shelf):
                self.check_change(shelf, change)

    def test_drawn_changes_of_larger_shelves(self):
        drawn = random.Random(53)
        for shelf in drawn_shelves(1, (5, 7, 9, 12), 12) + shelves_of_twelve():
            for change in drawn.sample(fitting_changes(shelf), 20):
                self.check_change(shelf, change)


class Out(unittest.TestCase):
    def shelves(self):
        return [shelf for shelf in many_shelves() if len(shelf.row()) > 1]

    def test_rest_runs_and_lot_without(self):
        for shelf in self.shelves():
            home = home_of(shelf)
            for book in shelf.row():
                rest = slow_awry(changed(home, ("out", book)))
                without = slow_awry(changed(shelf, ("out", book)))
                self.assertTrue(same(rest_runs(shelf, book), rest))
                self.assertTrue(same(lot_without(shelf, book), without))
                # A run is among those without the book if it comes an odd number of times.
                left = [tuple(other for other in run if other != book) for run in slow_awry(shelf)]
                come = rest + [run for run in left if len(run) > 1]
                self.assertEqual(without, sorted(run for run in set(come) if come.count(run) % 2))

    def test_lessened(self):
        drawn = random.Random(59)
        for shelf in self.shelves():
            others = [shelf, home_of(shelf), Shelf(shelf.catalogue(), shelf.row()[::-1])]
            others.append(slow_turned(others[0], drawn.choice(slow_runs(shelf))))
            for one, other in itertools.product(others, repeat=2):
                for book in shelf.row()[:4]:
                    differing = set(slow_awry(one)) ^ set(slow_awry(other))
                    less = set(lot_without(one, book)) ^ set(lot_without(other, book))
                    self.assertTrue(same(lessened(one, other, book), len(differing) - len(less)))
                    holding = [run for run in differing if book in run]
                    twice = [run for run in holding if tuple(one for one in run if one != book) in differing]
                    pairs = [run for run in holding if len(run) == 2]
                    self.assertEqual(lessened(one, other, book), len(pairs) + 2 * len(twice))

    def test_lessened_layer_by_layer(self):
        for shelf in shelves_to_four():
            for other in class_of(shelf).all()[::3]:
                for book in shelf.row() if len(shelf.row()) > 1 else []:
                    one, two = changed(shelf, ("out", book)), changed(other, ("out", book))
                    wanted = class_of(shelf).layers_from(shelf)[row_key(other)] - \
                        class_of(one).layers_from(one)[row_key(two)]
                    self.assertTrue(same(lessened(shelf, other, book), wanted))

    def check_joining(self, one, other, joined):
        books = sorted(one.catalogue())
        lots = [set(lot) for size in range(len(books)) for lot in itertools.combinations(books, size)
                if joined(*[cut_to(shelf, [book for book in books if book not in lot]) for shelf in (one, other)])]
        wanted = sorted(sorted(lot) for lot in lots if not any(lesser < lot for lesser in lots))
        self.assertTrue(same(joining_lots(one, other), wanted))

    def test_joining_lots(self):
        for one in shelves_to_four()[::2]:
            for other in shelves_to_four()[::3]:
                if one.catalogue() == other.catalogue():
                    self.check_joining(one, other, lambda one, other: slow_core(one) == slow_core(other))
        drawn = random.Random(61)
        for size, many in ((5, 20), (6, 15), (7, 15)):
            books = drawn.sample("abcdefghij", size)
            for _ in range(many):
                one, other = [shelf_of_ranks(books, drawn.sample(range(size), size)) for _ in range(2)]
                self.check_joining(one, other, are_joined)
        for shelf in drawn_shelves(1, (5, 6, 7), 12):
            self.check_joining(shelf, Shelf(shelf.catalogue(), shelf.catalogue()), are_joined)

    def test_joined_ones_need_nothing_out(self):
        for shelf in (ONE, CAB, WILD, PLAIN):
            self.assertEqual(joining_lots(shelf, home_of(shelf)), [[]])


class New(unittest.TestCase):
    def test_a_new_book_at_all_places(self):
        for shelf in shelves_to_four() + drawn_shelves(1, (6, 9, 12), 12)[::4] + shelves_of_twelve():
            many = len(shelf.row())
            for entry in range(many + 1) if many < 5 else (0, many // 2, many):
                made = [changed(shelf, ("put", "new", entry, place)) for place in range(many + 1)]
                turns = [len(slow_awry(one)) for one in made]
                self.assertTrue(same(turns_at(shelf, "new", entry), turns))
                best = [place for place in range(many + 1) if turns[place] == min(turns)]
                self.assertTrue(same(best_places(shelf, "new", entry), best))
                cores = [repr(slow_core(one) if many < 5 else core_of(one)) for one in made]
                lots = [[place for place in range(many + 1) if cores[place] == core] for core in set(cores)]
                self.assertTrue(same(joined_places(shelf, "new", entry), sorted(lots)))

    def test_a_book_listed_at_all_entries(self):
        for shelf in shelves_to_four() + drawn_shelves(1, (6, 9, 12), 12)[::3] + shelves_of_twelve():
            for book in shelf.row()[:5]:
                rest = [other for other in shelf.catalogue() if other != book]
                made = [Shelf(rest[:at] + [book] + rest[at:], shelf.row()) for at in range(len(rest) + 1)]
                self.assertEqual(made[shelf.catalogue().index(book)], shelf)
                self.assertTrue(same(turns_listed(shelf, book), [len(slow_awry(one)) for one in made]))
                sorts = [at for at, one in enumerate(made) if are_joined(one, Shelf(one.catalogue(), one.catalogue()))]
                self.assertTrue(same(sorting_entries(shelf, book), sorts))


def drawn_parts():
    """Shelves, books of them and parts to put in their places: of one book, two and more, of the book itself too."""
    drawn = random.Random(67)
    parts = [Shelf(["x"], ["x"]), Shelf(["y", "x"], ["x", "y"]), Shelf(["x", "y"], ["x", "y"])]
    parts += [Shelf(["w", "x", "y", "v"], row) for row in (list("xvwy"), list("wyvx"), list("vyxw"), list("ywvx"))]
    for shelf in [shelf for shelf in shelves_to_four() + drawn_shelves(1, (5, 6, 7), 12)
                  if not set("vwxy") & set(shelf.row())]:
        for part in drawn.sample(parts, 3):
            yield shelf, drawn.choice(shelf.row()), part


class Parts(unittest.TestCase):
    def put_by_words(self, shelf, book, part):
        def put(books, others):
            return sum([others if one == book else [one] for one in books], [])
        return Shelf(put(shelf.catalogue(), part.catalogue()), put(shelf.row(), part.row()))

    def test_put_for(self):
        for shelf, book, part in drawn_parts():
            made = put_for(shelf, book, part)
            self.assertTrue(same(made, self.put_by_words(shelf, book, part)))
            # The awry runs are those of the shelf, spread, and of the part; the part's whole comes once more if an odd
            # number of them holds the book.
            if len(part.row()) > 1:
                awry = [run_spread(run, book, part) for run in slow_awry(shelf)] + slow_awry(part)
                holding = sum(book in run for run in slow_awry(shelf))
                come = set(awry) ^ ({tuple(part.catalogue())} if holding % 2 else set())
                self.assertEqual(slow_awry(made), sorted(come))

    def test_the_book_itself_may_be_in_the_part(self):
        part = Shelf(["x", "a"], ["a", "x"])
        self.assertTrue(same(put_for(CAB, "a", part), Shelf(["x", "a", "b", "c"], ["c", "a", "x", "b"])))
        self.assertTrue(same(put_for(CAB, "a", Shelf(["a"], ["a"])), CAB))
        self.assertTrue(same(put_for(ONE, "z", CAB), CAB))
        self.assertTrue(same(put_for(ONE, "z", ONE), ONE))

    def test_turns_between_two_such_shelves(self):
        parts = [(Shelf(["x", "y"], ["x", "y"]), Shelf(["x", "y"], ["y", "x"]))]
        parts += [(Shelf(list("wxyv"), list("xvwy")), Shelf(list("wxyv"), list("ywvx")))]
        for one, other in ((LEFT, CAB), (HOME, RIGHT), (WILD, DLIW), (PLAIN, MIXED)):
            pairs = parts + [(second, first) for first, second in parts] + [(part, part) for part, _ in parts]
            for first, second in pairs:
                for book in one.row():
                    made, more = put_for(one, book, first), put_for(other, book, second)
                    both = len(set(slow_awry(one)) ^ set(slow_awry(other))) + \
                        len(set(slow_awry(first)) ^ set(slow_awry(second)))
                    whole = tuple(first.catalogue())
                    if faces(one)[book] != faces(other)[book]:
                        both += -1 if (whole in slow_awry(first)) != (whole in slow_awry(second)) else 1
                    self.assertEqual(len(set(slow_awry(made)) ^ set(slow_awry(more))), both)

    def test_run_spread(self):
        part = Shelf(["x", "q", "y"], ["y", "x", "q"])
        self.assertTrue(same(run_spread(("a", "c", "b"), "c", part), ("a", "x", "q", "y", "b")))
        self.assertTrue(same(run_spread(("a", "c", "b"), "a", part), ("x", "q", "y", "c", "b")))
        self.assertTrue(same(run_spread(("a", "c", "b"), "b", Shelf(["z"], ["z"])), ("a", "c", "z")))
        self.assertTrue(same(run_spread(("a", "c", "b"), "w", part), ("a", "c", "b")))
        self.assertTrue(same(run_spread(("a", "c"), "c", Shelf(["c", "x"], ["x", "c"])), ("a", "c", "x")))


def shelf_by_steps(shelf, changes, lot):
    try:
        return changed_by(shelf, [changes[at] for at in lot])
    except errors.InvalidChange:
        return None


@functools.lru_cache(None)
def drawn_changes(seed, many):
    """Lists of changes, many of which fit one behind the other, some only if others were made."""
    drawn, found = random.Random(seed), []
    for _ in range(many):
        changes = []
        for _ in range(drawn.randint(0, 4)):
            book, at = drawn.choice("abcdxy"), drawn.randint(0, 4)
            changes.append(drawn.choice([("out", book), ("put", drawn.choice("xy"), at, drawn.randint(0, 4)),
                                         ("move", book, at), ("list", book, at), ("out", book)]))
        found.append(changes)
    return found


class Lots(unittest.TestCase):
    def pairs(self):
        shelves = [shelf for shelf in shelves_to_four() if len(shelf.row()) == 4]
        drawn = random.Random(71)
        for changes in drawn_changes(73, 120):
            one, other = drawn.choice(shelves), drawn.choice(shelves)
            yield one, other, changes
            yield one, one, changes

    def lots(self, changes):
        positions = range(len(changes))
        return [list(lot) for size in range(len(changes) + 1) for lot in itertools.combinations(positions, size)]

    def test_lot_shelf(self):
        found = set()
        for one, _, changes in self.pairs():
            for lot in self.lots(changes):
                wanted = shelf_by_steps(one, changes, lot)
                self.assertTrue(same(lot_shelf(one, changes, lot), wanted))
                found.add(wanted is None)
        self.assertEqual(found, {True, False})

    def test_parting_and_meeting_changes(self):
        found = [0, 0]
        for one, other, changes in self.pairs():
            lots = {False: [], True: []}
            for lot in self.lots(changes):
                both = [shelf_by_steps(shelf, changes, lot) for shelf in (one, other)]
                if None not in both:
                    lots[are_joined(*both)].append(set(lot))
            for at, function, joined in ((0, parting_changes, False), (1, meeting_changes, True)):
                least = [lot for lot in lots[joined] if not any(lesser < lot for lesser in lots[joined])]
                self.assertTrue(same(function(one, other, changes), sorted(sorted(lot) for lot in least)))
                found[at] += any(len(lot) > 0 for lot in least)
        self.assertGreater(min(found), 5)

    def test_no_changes(self):
        for one, other, joined in ((WILD, PLAIN, False), (WILD, DLIW, True), (ONE, ONE, True)):
            self.assertEqual(parting_changes(one, other, []), [] if joined else [[]])
            self.assertEqual(meeting_changes(one, other, []), [[]] if joined else [])

    def test_a_change_that_fits_just_one_of_both(self):
        # The book stands where it has to go on one of both.
        changes = [("move", "b", 0)]
        self.assertEqual([parting_changes(WILD, PLAIN, changes), meeting_changes(WILD, PLAIN, changes)], [[[]], []])
        self.assertIsNone(lot_shelf(WILD, changes, [0]))
        self.assertTrue(same(lot_shelf(PLAIN, changes, [0]), Shelf(ABCD, ["b", "a", "c", "d"])))
