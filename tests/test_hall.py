"""Points [93] to [101]: a hall of shelves, its commands, blocks, undo and redo, copies and logs."""

import itertools
import random
import unittest

from runturns import errors, hall as module
from runturns.hall import Hall, replayed
from runturns.homes import home_of
from runturns.lots import filled, shelf_of
from runturns.shelves import Shelf
from runturns.ways import first_runs, many_ways
from tests.calls import RightCalls
from tests.helpers import ABC, Arguments, WrongArguments, any_objects, catalogue_is_right, check_error, is_one_of
from tests.helpers import is_shelf, names_of_parameters, same, shelves_of
from tests.model import COMMANDS, Drawing, PlainHall, check_command, check_hall, outcome, told_now
from tests.slow import class_of, neighbours, shelves_of_twelve, slow_awry

HOME, LEFT, RIGHT, CAB, CBA = [Shelf(ABC, list(row)) for row in ("abc", "bac", "acb", "cab", "cba")]
ABCD, ONE = ["a", "b", "c", "d"], Shelf(["z"], ["z"])
WILD, DLIW, PLAIN = Shelf(ABCD, ["b", "d", "a", "c"]), Shelf(ABCD, ["c", "a", "d", "b"]), Shelf(ABCD, ABCD)
AB, BC, ALL = ("a", "b"), ("b", "c"), ("a", "b", "c")
METHODS = {
    "put": ["shelf"], "take": ["spot"], "spots": [], "shelf": ["spot"], "wish_of": ["spot"], "barred": [],
    "turn": ["spot", "run"], "turns": ["spot"], "wish": ["spot", "goal"], "unwish": ["spot"], "needed": ["spot"],
    "left": ["spot"], "ways_left": ["spot"], "total": [], "bar": ["run"], "unbar": ["run"], "could_bar": [],
    "go": ["spot"], "openings": ["spot"], "exchange": ["spot", "shelf"], "meet": ["one", "other", "third"], "undo": [],
    "redo": [], "trial": [], "attempt": ["action"], "copy": [], "log": []}


def hall_of(catalogue, *commands):
    """A hall on which some commands were made."""
    hall = Hall(catalogue)
    for word, *things in commands:
        getattr(hall, word)(*things)
    return hall


BUSY = [("put", LEFT), ("wish", 0, RIGHT), ("bar", ALL), ("put", CAB), ("put", HOME), ("turn", 2, AB), ("undo",)]


def is_log(value):
    return type(value) is list and all(
        type(command) is tuple and len(command) > 0 and type(command[0]) is str and
        COMMANDS.get(command[0]) == len(command) - 1 for command in value)


class WrongInputs(WrongArguments, unittest.TestCase):
    told = [Arguments(Hall, (ABC, errors.InvalidCatalogue, catalogue_is_right)),
            Arguments(replayed, (hall_of(ABC, *BUSY), errors.InvalidHall, lambda value: type(value) is Hall),
                      ([("put", LEFT)], errors.InvalidLog, is_log))]

    def test_logs_that_are_none(self):
        hall = hall_of(ABC, *BUSY)
        for log in ((("put", LEFT),), [("put",)], [("put", LEFT, 0)], [["put", LEFT]], [("undo",)], [("redo",)], None,
                    [("try", [])], [("left", 0)], [("Put", LEFT)], [("put", LEFT), None], [()], {0: ("put", LEFT)},
                    [("meet", 0, 1)], [("meet", (0, 1, 2))], [(["put"], LEFT)], [(None, LEFT)], [(0,)], "put"):
            check_error(self, replayed, [hall, log], errors.InvalidLog, log)

    def test_names_and_arguments(self):
        self.assertEqual(names_of_parameters(Hall), ["catalogue"])
        self.assertEqual(names_of_parameters(replayed), ["hall", "log"])
        self.assertEqual([Hall.__module__, replayed.__module__], ["runturns.hall", "runturns.hall"])
        for name, arguments in METHODS.items():
            self.assertIn(name, vars(Hall))
            self.assertEqual(names_of_parameters(vars(Hall)[name])[1:], arguments, name)


class WrongArgumentsOfMethods(unittest.TestCase):
    """Each argument of each method, alone and beside others; nothing of the hall may change."""

    def check_method(self, name, things, order):
        """Rows of right arguments, and in the order of the checks the position, the error and a judge of each."""
        hall = hall_of(ABC, *BUSY)
        before = told_now(hall)
        for step, (at, kind, judge) in enumerate(order):
            behind = [other for other, _, _ in order[step + 1:]]
            wrong = [value for value in any_objects() if not judge(value)]
            self.assertGreater(len(wrong), 100)
            for turn, value in enumerate(wrong):
                for size in range(len(behind) + 1):
                    for some in itertools.combinations(behind, size):
                        told = [value if place == at else wrong[turn * 7 % len(wrong)] if place in some else thing
                                for place, thing in enumerate(things)]
                        for call in (lambda: getattr(hall, name)(*told),
                                     lambda: getattr(hall, name)(**dict(zip(METHODS[name], told)))):
                            found = outcome(call)
                            self.assertIs(found[0], kind, (name, told))
                            self.assertIs(found[1], value, (name, told))
        self.assertTrue(same(told_now(hall), before))

    def test_spots(self):
        spot = (0, errors.InvalidSpot, lambda value: type(value) is int and 0 <= value < 3)
        for name in ("take", "shelf", "wish_of", "turns", "unwish", "needed", "left", "ways_left", "go", "openings"):
            self.check_method(name, [0], [spot])
        run = (1, errors.InvalidRun, is_one_of([AB, ALL]))
        self.check_method("turn", [0, AB], [spot, run])
        shelf = (1, errors.InvalidShelf, is_shelf)
        self.check_method("wish", [0, HOME], [spot, shelf])
        self.check_method("exchange", [0, HOME], [spot, shelf])

    def test_other_arguments(self):
        lot = (0, errors.InvalidRun, is_one_of([AB, BC, ALL]))
        self.check_method("bar", [AB], [lot])
        self.check_method("unbar", [ALL], [lot])
        self.check_method("put", [LEFT], [(0, errors.InvalidShelf, is_shelf)])

    def test_three_spots(self):
        def other_than(*spots):
            return lambda value: type(value) is int and 0 <= value < 3 and value not in spots
        first = (0, errors.InvalidSpot, other_than())
        self.check_method("meet", [0, 1, 2], [first, (1, errors.InvalidSpot, other_than(0)),
                                              (2, errors.InvalidSpot, other_than(0, 1))])
        self.check_method("meet", [2, 0, 1], [first, (1, errors.InvalidSpot, other_than(2)),
                                              (2, errors.InvalidSpot, other_than(2, 0))])

    def test_shelves_of_other_catalogues(self):
        hall = hall_of(ABC, *BUSY)
        before = told_now(hall)
        for shelf in (ONE, PLAIN, Shelf(["b", "a", "c"], ABC), Shelf(["a", "b"], ["a", "b"])):
            for call in (lambda: hall.put(shelf), lambda: hall.wish(0, shelf), lambda: hall.exchange(0, shelf),
                         lambda: hall.exchange(1, shelf)):
                self.assertEqual(outcome(call), (errors.Unlike, shelf))
            self.assertEqual(outcome(lambda: hall.wish(9, shelf)), (errors.InvalidSpot, 9))
        self.assertTrue(same(told_now(hall), before))


class Calls(RightCalls, unittest.TestCase):
    calls = [(replayed, [Hall(ABC), hall_of(ABC, *BUSY).log()]), (replayed, [hall_of(ABC, *BUSY), []]),
             (replayed, [hall_of(ABC, *BUSY), [("put", RIGHT), ("meet", 1, 2, 3), ("go", 0)]]),
             (replayed, [hall_of(["z"], ("put", ONE)), [("take", 0), ("put", ONE)]])]


def catalogues():
    return [["q"], ["b", "a"], ["b", "c", "a"], ["c", "a", "d", "b"], ["c", "e", "a", "d", "b"]]


class DrawnCommands(unittest.TestCase):
    def drawings(self, seed, many):
        drawn = random.Random(seed)
        for turn in range(many):
            catalogue = catalogues()[turn % len(catalogues())]
            shelves = shelves_of(catalogue)
            # Many of one class, so that they are joined.
            some = class_of(drawn.choice(shelves)).all()[:6]
            yield drawn, Drawing(drawn, catalogue, some + [drawn.choice(shelves)])

    def test_command_by_command(self):
        taken = {}
        for _, drawing in self.drawings(89, 400):
            hall, plain = Hall(drawing.catalogue), PlainHall(drawing.catalogue)
            for _ in range(30):
                word, things = drawing.command(plain)
                made = len(plain.done)
                check_command(self, hall, plain, word, things)
                check_hall(self, hall, plain)
                key = (word, len(plain.done) != made)
                taken[key] = taken.get(key, 0) + 1
        for word in list(COMMANDS) + ["undo", "redo"]:
            self.assertGreater(min(taken[(word, True)], taken[(word, False)]), 10, taken)

    def test_blocks_within_blocks(self):
        for drawn, drawing in self.drawings(97, 300):
            hall, plain = Hall(drawing.catalogue), PlainHall(drawing.catalogue)
            self.play(drawn, drawing, hall, plain, 0)

    def play(self, drawn, drawing, hall, plain, deep):
        for _ in range(drawn.randint(1, 6 if deep else 14)):
            choice = drawn.random()
            if deep < 4 and choice < 0.12:
                self.in_block(drawn, drawing, hall, plain, deep)
            elif deep < 4 and choice < 0.2:
                self.in_attempt(drawn, drawing, hall, plain, deep)
            elif choice < 0.25:
                other, twin = hall.copy(), plain.copy()
                for _ in range(3):
                    check_command(self, other, twin, *drawing.command(twin))
                check_hall(self, other, twin)
            else:
                check_command(self, hall, plain, *drawing.command(plain))
            check_hall(self, hall, plain)

    def in_block(self, drawn, drawing, hall, plain, deep):
        done, undone, ends = plain.done, plain.undone, drawn.random() < 0.4
        try:
            with hall.trial() as given:
                self.assertIs(given, hall)
                self.play(drawn, drawing, hall, plain, deep + 1)
                if ends:
                    raise KeyError(deep)
        except KeyError:
            self.assertTrue(ends)
        plain.done, plain.undone = done, undone

    def in_attempt(self, drawn, drawing, hall, plain, deep):
        done, undone, given, calls = plain.done, plain.undone, [hall, {}], []

        def action(inner):
            self.assertIs(inner, hall)
            calls.append(deep)
            self.play(drawn, drawing, hall, plain, deep + 1)
            return given
        self.assertIs(hall.attempt(action), given)
        self.assertEqual(calls, [deep])
        plain.done, plain.undone = done, undone

    def test_logs_played_on_other_halls(self):
        for drawn, drawing in self.drawings(101, 200):
            hall, plain = Hall(drawing.catalogue), PlainHall(drawing.catalogue)
            for _ in range(drawn.randint(0, 25)):
                check_command(self, hall, plain, *drawing.command(plain))
            other, twin = Hall(drawing.catalogue), PlainHall(drawing.catalogue)
            for _ in range(drawn.randint(0, 5)):
                check_command(self, other, twin, *drawing.command(twin))
            log = hall.log()
            self.check_replayed(Hall(drawing.catalogue), PlainHall(drawing.catalogue), log)
            for _ in range(3):
                self.check_replayed(other, twin, sorted_sample(drawn, log))

    def check_replayed(self, hall, plain, log):
        before, beside = told_now(hall), plain.copy()

        def wanted():
            for word, *things in log:
                beside.make(word, *things)
        found, told = outcome(lambda: replayed(hall, log)), outcome(wanted)
        self.assertIs(found[0], told[0])
        if found[0] is True:
            check_hall(self, found[1], beside)
            self.assertIsNot(found[1], hall)
            for word in ("undo", "undo", "redo", "redo", "redo"):
                check_command(self, found[1], beside, word, ())
                check_hall(self, found[1], beside)
        else:
            self.assertTrue(same(found[1], told[1]))
        self.assertTrue(same(told_now(hall), before))


def sorted_sample(drawn, things):
    """Some of a list of things, in their order."""
    return [thing for thing in things if drawn.random() < 0.8]


class UndoAndRedo(unittest.TestCase):
    def test_to_the_end_and_beyond(self):
        hall = Hall(ABC)
        for call, kind in ((hall.undo, errors.NothingToUndo), (hall.redo, errors.NothingToRedo)):
            self.assertIs(outcome(call)[0], kind)
        told = [told_now(hall)]
        for word, *things in BUSY[:-1] + [("go", 0), ("put", CBA), ("meet", 3, 1, 2), ("unbar", ALL), ("unwish", 0),
                                          ("exchange", 0, CAB), ("take", 1)]:
            getattr(hall, word)(*things)
            told.append(told_now(hall))
        for _ in range(2):
            for wanted in told[-2::-1]:
                self.assertIsNone(hall.undo())
                self.assertTrue(same(told_now(hall), wanted))
            self.assertIs(outcome(hall.undo)[0], errors.NothingToUndo)
            for wanted in told[1:]:
                self.assertIsNone(hall.redo())
                self.assertTrue(same(told_now(hall), wanted))
            self.assertIs(outcome(hall.redo)[0], errors.NothingToRedo)

    def test_what_keeps_what_can_be_made_again(self):
        hall = hall_of(ABC, ("put", LEFT), ("turn", 0, AB), ("undo",))
        told_now(hall)
        for call in (lambda: hall.turn(0, ("b", "c")), lambda: hall.put(None), lambda: hall.take(5),
                     lambda: hall.go(0), lambda: hall.bar(("a", "c")), lambda: hall.unwish(0)):
            self.assertIsNot(outcome(call)[0], True)
        with hall.trial():
            hall.put(CAB)
            self.assertIs(outcome(hall.redo)[0], errors.NothingToRedo)
        hall.attempt(lambda inner: inner.take(0))
        hall.copy().put(CAB)
        self.assertIsNone(hall.redo())
        self.assertEqual([hall.shelf(0), hall.log()], [HOME, [("put", LEFT), ("turn", 0, AB)]])

    def test_a_new_command_behind_an_undo(self):
        hall = hall_of(ABC, ("put", LEFT), ("put", CAB), ("undo",), ("bar", AB))
        self.assertIs(outcome(hall.redo)[0], errors.NothingToRedo)
        self.assertEqual([hall.spots(), hall.put(HOME), hall.log()],
                         [[0], 1, [("put", LEFT), ("bar", AB), ("put", HOME)]])

    def test_spots_that_were_taken_back_count_as_never_made(self):
        hall = Hall(ABC)
        self.assertEqual([hall.put(LEFT), hall.put(CAB), hall.take(0), hall.put(HOME)], [0, 1, None, 2])
        hall.undo()
        self.assertEqual([hall.put(CBA), hall.spots()], [2, [1, 2]])
        with hall.trial():
            self.assertEqual([hall.put(HOME), hall.put(HOME), hall.take(4), hall.put(HOME)], [3, 4, None, 5])
        self.assertEqual(hall.put(RIGHT), 3)
        for _ in range(5):
            hall.undo()
        self.assertEqual([hall.spots(), hall.put(LEFT)], [[], 0])

    def test_behind_the_beginning_of_a_block(self):
        hall = hall_of(ABC, ("put", LEFT), ("turn", 0, AB))
        with hall.trial():
            hall.undo()
            hall.undo()
            self.assertEqual([hall.spots(), hall.log()], [[], []])
            hall.redo()
            hall.put(CAB)
        self.assertEqual([hall.shelf(0), hall.log()], [HOME, [("put", LEFT), ("turn", 0, AB)]])
        hall.undo()
        with hall.trial():
            hall.redo()
        self.assertEqual([hall.shelf(0), hall.redo(), hall.shelf(0)], [LEFT, None, HOME])


class Blocks(unittest.TestCase):
    def test_ten_deep(self):
        hall = hall_of(ABC, ("put", CAB))

        def deeper(deep):
            def action(inner):
                told = told_now(inner)
                inner.put(LEFT)
                if deep < 10:
                    found = inner.attempt(deeper(deep + 1)) if deep % 2 else None
                    with inner.trial() as given:
                        given.turn(0, ALL)
                        given.undo()
                        given.undo()
                        self.assertEqual(len(given.spots()), len(told) - 4)
                    return found or [deep]
                return [inner.spots()]
            return action
        told = told_now(hall)
        self.assertEqual(hall.attempt(deeper(1)), [2])
        self.assertTrue(same(told_now(hall), told))
        for _ in range(10):
            hall = self.entered(hall)
        self.assertEqual([len(hall.spots()), len(hall.log())], [1, 1])

    def entered(self, hall):
        def nest(deep):
            with hall.trial():
                hall.put(HOME)
                if deep:
                    nest(deep - 1)
                self.assertEqual(len(hall.spots()), 12 - deep - 1)
        nest(9)
        return hall

    def test_left_by_an_error_and_caught_within(self):
        hall = hall_of(ABC, ("put", LEFT), ("wish", 0, RIGHT))
        told = told_now(hall)
        with self.assertRaises(errors.Refused) as caught:
            with hall.trial():
                hall.go(0)
                with self.assertRaises(ZeroDivisionError):
                    with hall.trial():
                        hall.go(0)
                        raise ZeroDivisionError
                self.assertEqual([hall.left(0), hall.shelf(0)], [1, HOME])
                try:
                    hall.bar(BC)
                except errors.Refused:
                    hall.bar(ALL)
                hall.turn(0, ALL)
        self.assertEqual(caught.exception.value, ALL)
        self.assertTrue(same(told_now(hall), told))

    def test_an_error_of_an_action_goes_on(self):
        hall = hall_of(ABC, ("put", LEFT))
        told, error = told_now(hall), LookupError("x")

        def action(inner):
            inner.take(0)
            raise error
        with self.assertRaises(LookupError) as caught:
            hall.attempt(action)
        self.assertIs(caught.exception, error)
        self.assertTrue(same(told_now(hall), told))

    def test_a_block_begins_when_it_is_entered(self):
        hall = hall_of(ABC, ("put", LEFT))
        block = hall.trial()
        hall.turn(0, AB)
        with block as given:
            self.assertIs(given, hall)
            hall.take(0)
        self.assertEqual([hall.shelf(0), len(hall.log())], [HOME, 2])

    def test_what_an_action_gives(self):
        hall = hall_of(ABC, ("put", LEFT))
        for given in (None, [], {}, (1, [2]), hall, hall.copy(), errors.Refused(1), 0, True):
            self.assertIs(hall.attempt(lambda inner: given), given)
            self.assertIs(hall.attempt(action=lambda inner: given), given)
        self.assertEqual(hall.attempt(lambda inner: inner.put(CAB)), 1)
        self.assertEqual(hall.attempt(Hall.spots), [0])


class Copies(unittest.TestCase):
    def test_they_go_their_own_way(self):
        hall = hall_of(ABC, *BUSY)
        other = hall.copy()
        self.assertIsNot(other, hall)
        self.assertTrue(same(hall, other))
        told = told_now(hall)
        other.redo()
        other.go(0)
        other.unbar(ALL)
        other.take(1)
        self.assertTrue(same(told_now(hall), told))
        third = hall.copy()
        hall.take(0)
        hall.put(CBA)
        self.assertTrue(same(told_now(third), told))
        third.redo()
        self.assertEqual([third.shelf(2), other.shelf(2)], [LEFT, LEFT])

    def test_a_copy_made_in_a_block_is_in_none(self):
        hall = hall_of(ABC, ("put", LEFT))
        with hall.trial():
            hall.put(CAB)
            other = hall.copy()
            with other.trial():
                other.put(HOME)
                other.take(0)
            other.turn(0, AB)
            self.assertEqual([hall.shelf(0), other.shelf(0)], [LEFT, HOME])
        self.assertEqual([hall.spots(), other.spots(), other.shelf(0), len(other.log())], [[0], [0, 1], HOME, 3])
        other.undo()
        other.undo()
        self.assertEqual([other.spots(), other.shelf(0)], [[0], LEFT])
        self.assertEqual(hall.attempt(lambda inner: inner.copy()).log(), hall.log())

    def test_each_hall_is_equal_to_itself(self):
        hall = hall_of(ABC, *BUSY)
        self.assertTrue(hall == hall)
        self.assertIn(hall, [hall])


class Commands(unittest.TestCase):
    def test_the_order_of_errors(self):
        hall = hall_of(ABCD, ("put", PLAIN), ("put", WILD), ("put", PLAIN), ("put", PLAIN), ("wish", 0, PLAIN))
        told = told_now(hall)
        stranger = Shelf(ABCD[::-1], ABCD)
        rows = [(lambda: hall.wish(0, None), errors.InvalidShelf, None),
                (lambda: hall.wish(0, WILD), errors.Apart, WILD),
                (lambda: hall.wish(0, stranger), errors.Unlike, stranger), (lambda: hall.go(0), errors.Refused, 0),
                (lambda: hall.go(1), errors.Refused, 1), (lambda: hall.unwish(1), errors.Refused, 1),
                (lambda: hall.exchange(0, WILD), errors.Apart, WILD),
                (lambda: hall.meet(0, 1, 2), errors.Apart, WILD), (lambda: hall.meet(2, 0, 1), errors.Apart, WILD),
                (lambda: hall.meet(1, 0, 2), errors.Apart, PLAIN), (lambda: hall.meet(0, 2, 3), errors.Refused, 0),
                (lambda: hall.meet(2, 3, 0), errors.Refused, 0), (lambda: hall.meet(2, 2, 9), errors.InvalidSpot, 2),
                (lambda: hall.meet(2, 3, 2), errors.InvalidSpot, 2),
                (lambda: hall.meet(1, 1, 0), errors.InvalidSpot, 1),
                (lambda: hall.turn(1, ("a", "b")), errors.InvalidRun, ("a", "b")),
                (lambda: hall.unbar(("a", "b")), errors.Refused, ("a", "b")),
                (lambda: hall.unbar(("a", "c")), errors.InvalidRun, ("a", "c"))]
        for call, kind, value in rows:
            self.assertEqual(outcome(call), (kind, value))
        self.assertTrue(same(told_now(hall), told))

    def test_barred_runs(self):
        hall = hall_of(ABC, ("put", LEFT), ("wish", 0, RIGHT))
        self.assertEqual([outcome(lambda: hall.bar(run)) for run in (AB, BC)],
                         [(errors.Refused, AB), (errors.Refused, BC)])
        self.assertEqual([hall.could_bar(), hall.bar(ALL), hall.could_bar(), hall.barred()], [[ALL], None, [], [ALL]])
        for call in (lambda: hall.bar(ALL), lambda: hall.turn(0, ALL)):
            self.assertEqual(outcome(call), (errors.Refused, ALL))
        self.assertEqual([outcome(lambda: hall.wish(0, CAB)), outcome(lambda: hall.exchange(0, CBA))],
                         [(errors.Refused, CAB), (errors.Refused, CBA)])
        self.assertEqual([hall.unwish(0), hall.exchange(0, CBA), hall.shelf(0)], [None, None, CBA])
        self.assertEqual([hall.unbar(ALL), hall.turn(0, ALL), hall.shelf(0)], [None, None, HOME])

    def test_meet_leads_past_barred_runs(self):
        hall = hall_of(ABC, ("put", LEFT), ("put", CAB), ("put", CBA), ("bar", ALL), ("bar", AB))
        self.assertEqual([hall.meet(0, 1, 2), hall.shelf(0), hall.shelf(2)], [CAB, CAB, CAB])
        self.assertEqual(hall.log()[-1], ("meet", 0, 1, 2))

    def test_exchange_with_a_wish(self):
        hall = hall_of(ABC, ("put", LEFT), ("wish", 0, RIGHT))
        self.assertEqual(outcome(lambda: hall.exchange(0, CAB)), (errors.Refused, CAB))
        # As far as the one there, an equal one, and nearer ones.
        for shelf in (CBA, Shelf(ABC, list("cba")), Shelf(ABC, list("bca")), RIGHT):
            self.assertIsNone(hall.exchange(0, shelf))
        self.assertEqual([hall.left(0), hall.openings(0), hall.ways_left(0), hall.total()], [0, [], 1, 0])
        self.assertEqual([outcome(lambda: hall.exchange(0, HOME)), outcome(lambda: hall.go(0))],
                         [(errors.Refused, HOME), (errors.Refused, 0)])
        self.assertIsNone(hall.exchange(0, RIGHT))

    def test_a_wish_in_the_place_of_another(self):
        hall = hall_of(ABC, ("put", LEFT), ("wish", 0, RIGHT), ("wish", 0, LEFT))
        self.assertEqual([hall.wish_of(0), hall.left(0), hall.could_bar()], [LEFT, 0, [AB, ALL, BC]])
        hall.undo()
        self.assertEqual([hall.wish_of(0), hall.left(0)], [RIGHT, 2])
        hall.take(0)
        self.assertEqual([hall.spots(), hall.total(), hall.could_bar()], [[], 0, [AB, ALL, BC]])
        hall.undo()
        self.assertEqual([hall.wish_of(0), hall.total()], [RIGHT, 2])

    def test_what_was_passed_and_returned_is_free(self):
        catalogue = ["a", "b", "c"]
        hall = Hall(catalogue)
        catalogue.reverse()
        hall.put(LEFT)
        hall.wish(0, RIGHT)
        hall.bar(ALL)
        told = told_now(hall)
        for lot in (hall.spots(), hall.barred(), hall.turns(0), hall.needed(0), hall.openings(0), hall.could_bar(),
                    hall.log()):
            lot.append("spoilt")
            lot.reverse()
        self.assertTrue(same(told_now(hall), told))
        log = [("turn", 0, AB)]
        found = replayed(hall, log)
        log.clear()
        self.assertEqual(found.log()[-1:], [("turn", 0, AB)])

    def test_by_the_names_of_the_interface(self):
        hall = Hall(catalogue=ABC)
        self.assertEqual([hall.put(shelf=LEFT), hall.put(shelf=CAB), hall.put(shelf=CBA)], [0, 1, 2])
        self.assertEqual([hall.wish(goal=RIGHT, spot=0), hall.needed(spot=0), hall.left(spot=0)], [None, [AB, BC], 2])
        self.assertEqual([hall.ways_left(spot=0), hall.openings(spot=0), hall.go(spot=0)], [1, [AB], AB])
        self.assertEqual([hall.bar(run=ALL), hall.turn(run=AB, spot=0), hall.turns(spot=0)], [None, None, [AB]])
        self.assertEqual([hall.unbar(run=ALL), hall.unwish(spot=0), hall.exchange(shelf=HOME, spot=0)], [None] * 3)
        self.assertEqual([hall.meet(third=2, other=1, one=0), hall.wish_of(spot=0)], [CBA, None])
        self.assertEqual(hall.shelf(spot=1), CBA)
        self.assertEqual([hall.take(spot=1), hall.spots()], [None, [0, 2]])
        self.assertEqual(replayed(log=hall.log(), hall=Hall(ABC)).spots(), [0, 2])


class Edges(unittest.TestCase):
    def test_a_hall_without_spots(self):
        hall = Hall(ABC)
        self.assertTrue(same([hall.spots(), hall.barred(), hall.could_bar(), hall.total(), hall.log()],
                             [[], [], [AB, ALL, BC], 0, []]))
        self.assertEqual(replayed(hall, []).log(), [])
        self.assertEqual([hall.bar(BC), hall.bar(AB), hall.barred(), hall.could_bar()], [None, None, [AB, BC], [ALL]])

    def test_one_book(self):
        hall = hall_of(["z"], ("put", ONE), ("wish", 0, ONE), ("exchange", 0, ONE))
        self.assertTrue(same(told_now(hall)[:-1], [[0, ONE, ONE, [], 0, 1, [], []], [], [], 0]))
        for run in (("z",), (), None, ("z", "z")):
            self.assertEqual(outcome(lambda: hall.bar(run)), (errors.InvalidRun, run))
            self.assertEqual(outcome(lambda: hall.turn(0, run)), (errors.InvalidRun, run))

    def test_a_spot_without_a_wish(self):
        hall = hall_of(ABC, ("put", LEFT))
        for told in (hall.wish_of(0), hall.needed(0), hall.left(0), hall.ways_left(0), hall.openings(0)):
            self.assertIsNone(told)
        self.assertEqual([outcome(lambda: hall.go(0)), outcome(lambda: hall.unwish(0))], [(errors.Refused, 0)] * 2)

    def test_twelve_books(self):
        rising, falling, crossed = shelves_of_twelve()[:3]
        books = rising.catalogue()
        goal = shelf_of(rising, sorted(tuple(books[:size]) for size in range(3, 11)))
        hall = hall_of(books, ("put", rising), ("wish", 0, goal), ("put", crossed), ("wish", 1, home_of(crossed)))
        self.assertEqual([hall.left(0), hall.ways_left(0), hall.total()], [8, 40320, 8 + len(slow_awry(crossed))])
        needed = hall.needed(0)
        self.assertEqual(hall.could_bar(), [run for run in neighbours(books) if run not in needed + hall.needed(1)])
        while hall.left(0):
            before = hall.shelf(0)
            wanted = first_runs(before, goal)
            self.assertEqual([hall.openings(0), hall.ways_left(0)], [wanted, many_ways(before, goal)])
            self.assertEqual(hall.go(0), wanted[0])
        self.assertEqual([hall.shelf(0), hall.openings(0), len(hall.log())], [goal, [], 12])
        hall.put(falling)
        hall.put(filled(rising))
        hall.unwish(0)
        awry = [slow_awry(hall.shelf(spot)) for spot in (0, 2, 3)]
        wanted = sorted(run for run in set(sum(awry, [])) if sum(run in lot for lot in awry) > 1)
        self.assertEqual(slow_awry(hall.meet(0, 2, 3)), wanted)

    def test_thirty_commands(self):
        hall = hall_of(ABC, ("put", LEFT))
        for turn in range(29):
            hall.turn(0, [AB, ALL][turn % 2])
        self.assertEqual(len(hall.log()), 30)
        other = replayed(Hall(ABC), hall.log())
        self.assertTrue(same(other, hall))
        for _ in range(30):
            other.undo()
        self.assertEqual([other.spots(), outcome(other.undo)[0]], [[], errors.NothingToUndo])

    def test_the_module(self):
        self.assertIs(module.Hall, Hall)
