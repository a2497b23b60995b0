"""A plain hall beside the one of the package: a list of commands, carried out anew by the document's words."""

import functools

from runturns import errors
from runturns.hall import Hall
from runturns.shelves import Shelf
from tests.helpers import is_one_of, same
from tests.slow import class_of, neighbours, row_key, slow_awry, slow_runs, slow_turned

COMMANDS = {"put": 1, "take": 1, "turn": 2, "wish": 2, "unwish": 1, "bar": 1, "unbar": 1, "go": 1, "exchange": 2,
            "meet": 3}


class Wrong(Exception):
    """The error of the package that has to come, by its class, and what its field has to hold."""

    def __init__(self, kind, value=None):
        super().__init__(kind)
        self.kind, self.value = kind, value


def check(right, kind, value=None):
    if not right:
        raise Wrong(kind, value)


def are_joined(one, other):
    return row_key(other) in class_of(one).shelves


def differing(one, other):
    return sorted(set(slow_awry(one)) ^ set(slow_awry(other)))


@functools.lru_cache(None)
def ways_between(catalogue, row, goal):
    one = Shelf(list(catalogue), list(row))
    return class_of(one).ways(one, Shelf(list(catalogue), list(goal)))


def ways(one, other):
    return ways_between(row_key(Shelf(one.catalogue(), one.catalogue())), row_key(one), row_key(other))


def middle_of(shelves):
    told = class_of(shelves[0])
    layers = [told.layers_from(told.shelves[row_key(shelf)]) for shelf in shelves]
    sums = {row: sum(layer[row] for layer in layers) for row in told.shelves}
    return told.shelves[min(sums, key=lambda row: sums[row])]


class Spots:
    """Shelves and wishes by spots, and bars, changed by one command after the other."""

    def __init__(self, catalogue):
        self.catalogue, self.next = catalogue, 0
        self.shelves, self.wishes, self.bars = {}, {}, []

    def check_spot(self, spot):
        check(type(spot) is int and spot in self.shelves, errors.InvalidSpot, spot)

    def check_shelf(self, shelf):
        check(type(shelf) is Shelf, errors.InvalidShelf, shelf)
        check(shelf.catalogue() == self.catalogue, errors.Unlike, shelf)

    def check_lot(self, run):
        check(is_one_of(neighbours(self.catalogue))(run), errors.InvalidRun, run)

    def needed(self, spot):
        return differing(self.shelves[spot], self.wishes[spot]) if spot in self.wishes else None

    def needed_anywhere(self):
        return [run for spot in self.wishes for run in self.needed(spot)]

    def openings(self, spot):
        if spot not in self.wishes:
            return None
        return sorted({way[0] for way in ways(self.shelves[spot], self.wishes[spot]) if way})

    def put(self, shelf):
        self.check_shelf(shelf)
        self.shelves[self.next] = shelf
        self.next += 1
        return self.next - 1

    def take(self, spot):
        self.check_spot(spot)
        del self.shelves[spot]
        self.wishes.pop(spot, None)

    def turn(self, spot, run):
        self.check_spot(spot)
        check(is_one_of(slow_runs(self.shelves[spot]))(run), errors.InvalidRun, run)
        check(run not in self.bars, errors.Refused, run)
        self.shelves[spot] = slow_turned(self.shelves[spot], run)

    def wish(self, spot, goal):
        self.check_spot(spot)
        self.check_shelf(goal)
        check(are_joined(self.shelves[spot], goal), errors.Apart, goal)
        needed = differing(self.shelves[spot], goal)
        check(not set(needed) & set(self.bars), errors.Refused, goal)
        self.wishes[spot] = goal

    def unwish(self, spot):
        self.check_spot(spot)
        check(spot in self.wishes, errors.Refused, spot)
        del self.wishes[spot]

    def bar(self, run):
        self.check_lot(run)
        check(run not in self.bars + self.needed_anywhere(), errors.Refused, run)
        self.bars.append(run)

    def unbar(self, run):
        self.check_lot(run)
        check(run in self.bars, errors.Refused, run)
        self.bars.remove(run)

    def go(self, spot):
        self.check_spot(spot)
        runs = self.openings(spot)
        check(runs, errors.Refused, spot)
        self.shelves[spot] = slow_turned(self.shelves[spot], runs[0])
        return runs[0]

    def exchange(self, spot, shelf):
        self.check_spot(spot)
        self.check_shelf(shelf)
        if spot in self.wishes:
            check(are_joined(shelf, self.wishes[spot]), errors.Apart, shelf)
            runs = differing(shelf, self.wishes[spot])
            check(not set(runs) & set(self.bars) and len(runs) <= len(self.needed(spot)), errors.Refused, shelf)
        self.shelves[spot] = shelf

    def meet(self, one, other, third):
        spots = []
        for spot in (one, other, third):
            self.check_spot(spot)
            check(spot not in spots, errors.InvalidSpot, spot)
            spots.append(spot)
        for spot in (other, third):
            check(are_joined(self.shelves[one], self.shelves[spot]), errors.Apart, self.shelves[spot])
        for spot in spots:
            check(spot not in self.wishes, errors.Refused, spot)
        found = middle_of([self.shelves[spot] for spot in spots])
        for spot in spots:
            self.shelves[spot] = found
        return found


class PlainHall:
    """The commands that were made and those taken back; what is there is made of them anew each time."""

    def __init__(self, catalogue):
        self.catalogue, self.done, self.undone = catalogue, [], []

    def now(self):
        spots = Spots(self.catalogue)
        for word, things in self.done:
            getattr(spots, word)(*things)
        return spots

    def make(self, word, *things):
        """Carry out a command, or raise Wrong."""
        if word == "undo":
            check(self.done, errors.NothingToUndo)
            self.undone = self.undone + self.done[-1:]
            self.done = self.done[:-1]
        elif word == "redo":
            check(self.undone, errors.NothingToRedo)
            self.done = self.done + self.undone[-1:]
            self.undone = self.undone[:-1]
        else:
            found = getattr(self.now(), word)(*things)
            self.done, self.undone = self.done + [(word, things)], []
            return found
        return None

    def copy(self):
        other = PlainHall(self.catalogue)
        other.done, other.undone = self.done, self.undone
        return other

    def told(self):
        """What the methods of a hall have to tell, spot by spot, and of all."""
        now, told = self.now(), []
        for spot in sorted(now.shelves):
            shelf, goal, needed = now.shelves[spot], now.wishes.get(spot), now.needed(spot)
            many = None if goal is None else len(ways(shelf, goal))
            turns = [run for run in slow_runs(shelf) if run not in now.bars]
            told.append([spot, shelf, goal, needed, None if needed is None else len(needed), many, now.openings(spot),
                         turns])
        free = [run for run in neighbours(self.catalogue) if run not in now.bars + now.needed_anywhere()]
        total = sum(len(now.needed(spot)) for spot in now.wishes)
        return told + [sorted(now.bars), free, total, [(word, *things) for word, things in self.done]]


def told_now(hall):
    """What the methods of a hall tell, in the form of the plain one."""
    return [[spot, hall.shelf(spot), hall.wish_of(spot), hall.needed(spot), hall.left(spot), hall.ways_left(spot),
             hall.openings(spot), hall.turns(spot)] for spot in hall.spots()] + [
                 hall.barred(), hall.could_bar(), hall.total(), hall.log()]


def outcome(call):
    """What a call gives: a tuple of True and it, or the class of the error that it raises and its field."""
    try:
        return True, call()
    except Wrong as error:
        return error.kind, error.value
    except errors.ShelfError as error:
        return type(error), getattr(error, "value", None)


def check_command(case, hall, plain, word, things):
    """Carry out a command on a hall and on the plain one beside it: both have to give the same."""
    before = hall.log()
    wanted, found = outcome(lambda: plain.make(word, *things)), outcome(lambda: getattr(hall, word)(*things))
    shown = f"{before!r}, {word}{things!r}: {found!r}"
    case.assertIs(found[0], wanted[0], shown)
    if found[0] is True or found[0] is errors.Apart:
        case.assertTrue(same(found[1], wanted[1]), shown)
    else:
        case.assertIs(found[1], wanted[1], shown)


def check_hall(case, hall, plain):
    case.assertTrue(same(told_now(hall), plain.told()), hall.log())


class Drawing:
    """Commands drawn for halls of a catalogue: most can be taken, some cannot, some are wrong in all ways."""

    def __init__(self, drawn, catalogue, shelves):
        self.drawn, self.catalogue, self.shelves = drawn, catalogue, shelves
        self.lots = neighbours(catalogue)

    def spot(self, plain):
        spots = sorted(plain.now().shelves)
        if spots and self.drawn.random() < 0.93:
            return self.drawn.choice(spots)
        return self.drawn.choice([0, 1, 2, 7, -1, True, False, None, "0", [0], (0,), 10 ** 29])

    def shelf(self, plain, spot):
        """A shelf, more often one that is joined with the one at a spot."""
        now = plain.now()
        if type(spot) is int and spot in now.shelves and self.drawn.random() < 0.8:
            return self.drawn.choice(class_of(now.shelves[spot]).all())
        if self.drawn.random() < 0.9:
            return self.drawn.choice(self.shelves)
        return self.drawn.choice([None, "a", [], Shelf(["zz"], ["zz"]), self.catalogue, Hall(self.catalogue), ("put",),
                                  Shelf(self.catalogue + ["zz"], self.catalogue + ["zz"])])

    def run(self, plain, spot):
        now = plain.now()
        if type(spot) is int and spot in now.shelves and self.drawn.random() < 0.8:
            runs = slow_runs(now.shelves[spot])
            if runs:
                return self.drawn.choice(runs)
        if self.lots and self.drawn.random() < 0.85:
            return self.drawn.choice(self.lots)
        return self.drawn.choice([None, (), tuple(self.catalogue[:1]), tuple(self.catalogue[::-1]), self.catalogue,
                                  tuple(self.catalogue[::2]), "ab", ("zz", "a"), [tuple(self.catalogue)], 0, True])

    def command(self, plain):
        """A word and the tuple of the things behind it."""
        word = self.drawn.choice(["put", "put", "take", "turn", "turn", "turn", "wish", "wish", "wish", "unwish",
                                  "bar", "unbar", "go", "go", "go", "exchange", "exchange", "meet", "meet", "undo",
                                  "undo", "redo"])
        if len(plain.now().shelves) > 3 and word == "put":
            word = self.drawn.choice(["take", "meet"])
        if plain.undone and self.drawn.random() < 0.3:
            word = "redo"
        if word in ("undo", "redo"):
            return word, ()
        if word == "put":
            return word, (self.shelf(plain, None),)
        if word in ("bar", "unbar"):
            bars = plain.now().bars
            return word, (self.drawn.choice(bars) if word == "unbar" and bars else self.run(plain, None),)
        if word == "meet":
            spots = sorted(plain.now().shelves)
            several = len(spots) > 2 and self.drawn.random() < 0.8
            return word, tuple(self.drawn.sample(spots, 3) if several else [self.spot(plain) for _ in range(3)])
        spot = self.spot(plain)
        if word == "turn":
            return word, (spot, self.run(plain, spot))
        return word, (spot, self.shelf(plain, spot)) if word in ("wish", "exchange") else (spot,)
