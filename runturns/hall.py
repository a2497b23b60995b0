"""A hall: shelves at spots, wishes to which they are led, and barred runs, by commands that can be taken back."""

from runturns.between import middle
from runturns.counts import is_count
from runturns.errors import InvalidCatalogue, InvalidHall, InvalidLog, InvalidRun, InvalidSpot, NothingToRedo
from runturns.errors import NothingToUndo, Refused, Unlike
from runturns.homes import check_joined, check_one_class
from runturns.runs import all_runs, check_run, neighbours_of, turned_about
from runturns.shelves import check_alike, check_shelf, is_catalogue
from runturns.states import Moment, State
from runturns.ways import differing_runs, first_runs, many_ways

# How many things stand behind the word of each command of a log.
THINGS_BEHIND = {"put": 1, "take": 1, "turn": 2, "wish": 2, "unwish": 1, "bar": 1, "unbar": 1, "go": 1, "exchange": 2,
                 "meet": 3}


class Trial:
    """A block behind which a hall is as it was when the block was entered."""

    def __init__(self, hall):
        self.hall = hall
        self.kept = None

    def __enter__(self):
        self.kept = self.hall._now
        return self.hall

    def __exit__(self, kind, value, trace):
        hall = self.hall
        hall._now = self.kept


class Hall:
    """Shelves of one catalogue at spots, perhaps with wishes, and runs that may not be turned."""

    def __init__(self, catalogue):
        if not is_catalogue(catalogue):
            raise InvalidCatalogue(catalogue)
        self._books = list(catalogue)
        self._now = Moment(State({}, {}, [], 0), [], [])

    def _make(self, command, state):
        """Take a command that makes a state."""
        self._now = self._now.behind(command, state)

    def _checked(self, spot):
        """The state; raise InvalidSpot unless any object is a spot of it."""
        state = self._now.state
        if not is_count(spot) or spot not in state.shelves:
            raise InvalidSpot(spot)
        return state

    def _check_neighbours(self, run):
        """Raise InvalidRun unless any object is a tuple of neighbours of the catalogue, in its order."""
        if run not in neighbours_of(self._books):
            raise InvalidRun(run)

    def put(self, shelf):
        """Put a shelf at the least count that no spot has had, and return it."""
        check_shelf(shelf)
        if shelf.catalogue() != self._books:
            raise Unlike(shelf)
        spot = self._now.state.next_spot
        self._make(("put", shelf), self._now.state.with_new_spot(shelf))
        return spot

    def take(self, spot):
        """Take a spot and its wish away."""
        self._make(("take", spot), self._checked(spot).without_spot(spot))

    def spots(self):
        """The ascending list of the spots."""
        return sorted(list(self._now.state.shelves))

    def shelf(self, spot):
        """The shelf that is at a spot now."""
        return self._checked(spot).shelves[spot]

    def wish_of(self, spot):
        """The wish of a spot, None if it has none."""
        return self._checked(spot).wishes.get(spot)

    def barred(self):
        """The ascending list of the barred runs."""
        return list(self._now.state.bars)

    def turn(self, spot, run):
        """Turn a run of the shelf at a spot about."""
        shelf = self.shelf(spot)
        check_run(shelf, run)
        if run in self.barred():
            raise Refused(run)
        self._make(("turn", spot, run), self._now.state.with_shelf(spot, turned_about(shelf, run)))

    def turns(self, spot):
        """The ascending list of the runs at a spot that can be turned."""
        bars = self.barred()
        return [run for run in all_runs(self.shelf(spot)) if run not in bars]

    def wish(self, spot, goal):
        """Give a spot a wish, in the place of the one that it had."""
        shelf, bars = self.shelf(spot), self.barred()
        check_joined(shelf, goal)
        if any([run in bars for run in differing_runs(shelf, goal)]):
            raise Refused(goal)
        self._make(("wish", spot, goal), self._now.state.with_wish(spot, goal))

    def unwish(self, spot):
        """Take the wish of a spot away."""
        if self.wish_of(spot) is None:
            raise Refused(spot)
        self._make(("unwish", spot), self._now.state.without_wish(spot))

    def needed(self, spot):
        """The ascending list of the runs needed at a spot, None if it has no wish."""
        return self._checked(spot).needed_at(spot)

    def left(self, spot):
        """The fewest turns to the wish of a spot, None if it has none."""
        runs = self.needed(spot)
        return None if runs is None else len(runs)

    def ways_left(self, spot):
        """How many rows of as few turns as can be lead to the wish of a spot, None if it has none."""
        goal = self.wish_of(spot)
        return None if goal is None else many_ways(self.shelf(spot), goal)

    def total(self):
        """The sum of the fewest turns to all wishes."""
        return len(self._now.state.needed_anywhere())

    def bar(self, run):
        """Bar a run."""
        self._check_neighbours(run)
        if run not in self.could_bar():
            raise Refused(run)
        self._make(("bar", run), self._now.state.with_bars(sorted(self.barred() + [run])))

    def unbar(self, run):
        """Let a barred run again."""
        self._check_neighbours(run)
        bars = self.barred()
        if run not in bars:
            raise Refused(run)
        self._make(("unbar", run), self._now.state.with_bars([other for other in bars if other != run]))

    def could_bar(self):
        """The ascending list of the runs that can be barred."""
        kept = self.barred() + self._now.state.needed_anywhere()
        return [run for run in neighbours_of(self._books) if run not in kept]

    def go(self, spot):
        """Turn the first run with which some shortest row to the wish of a spot begins, and return it."""
        runs = self.openings(spot)
        if runs is None or runs == []:
            raise Refused(spot)
        shelf = turned_about(self.shelf(spot), runs[0])
        self._make(("go", spot), self._now.state.with_shelf(spot, shelf))
        return runs[0]

    def openings(self, spot):
        """The ascending list of the runs with which some shortest row to the wish begins, None without a wish."""
        goal = self.wish_of(spot)
        return None if goal is None else first_runs(self.shelf(spot), goal)

    def exchange(self, spot, shelf):
        """Put a shelf in the place of the one at a spot, if the wish is not farther from it."""
        goal, bars = self.wish_of(spot), self.barred()
        if goal is None:
            check_alike(self.shelf(spot), shelf)
        else:
            check_joined(goal, shelf)
            runs = differing_runs(shelf, goal)
            if len(runs) > self.left(spot) or any([run in bars for run in runs]):
                raise Refused(shelf)
        self._make(("exchange", spot, shelf), self._now.state.with_shelf(spot, shelf))

    def meet(self, one, other, third):
        """Put at three unlike spots the shelf in the middle of the three that are there, and return it."""
        spots = [one, other, third]
        for at, spot in enumerate(spots):
            self._checked(spot)
            if spot in spots[:at]:
                raise InvalidSpot(spot)
        shelves = [self.shelf(spot) for spot in spots]
        check_one_class(shelves)
        for spot in spots:
            if self.wish_of(spot) is not None:
                raise Refused(spot)
        found = middle(shelves[0], shelves[1], shelves[2])
        state = self._now.state.with_shelf(one, found).with_shelf(other, found).with_shelf(third, found)
        self._make(("meet", one, other, third), state)
        return found

    def undo(self):
        """Take the last command back."""
        if self._now.done == []:
            raise NothingToUndo()
        self._now = self._now.taken_back()

    def redo(self):
        """Make the command that was taken back last again."""
        if self._now.undone == []:
            raise NothingToRedo()
        self._now = self._now.made_again()

    def trial(self):
        """A block behind which the hall is as it was."""
        return Trial(self)

    def attempt(self, action):
        """What a function returns that is called with the hall in such a block."""
        with self.trial():
            return action(self)

    def copy(self):
        """An independent hall that is the same in everything that is told of it, in no block."""
        other = Hall(self._books)
        other._now = self._now
        return other

    def log(self):
        """The list of the commands that are not taken back, the eldest first."""
        return [command for command, _ in self._now.done]


def is_logged(value):
    """Whether any object is a tuple of the word of a command and as many things as it has."""
    if not isinstance(value, tuple) or value == () or not isinstance(value[0], str):
        return False
    return THINGS_BEHIND.get(value[0]) == len(value) - 1


def carry_out(hall, command):
    """Make a command of a log on a hall, and return what its method returns."""
    match command:
        case ("put", shelf):
            return hall.put(shelf)
        case ("take", spot):
            return hall.take(spot)
        case ("turn", spot, run):
            return hall.turn(spot, run)
        case ("wish", spot, goal):
            return hall.wish(spot, goal)
        case ("unwish", spot):
            return hall.unwish(spot)
        case ("bar", run):
            return hall.bar(run)
        case ("unbar", run):
            return hall.unbar(run)
        case ("go", spot):
            return hall.go(spot)
        case ("exchange", spot, shelf):
            return hall.exchange(spot, shelf)
        case ("meet", one, other, third):
            return hall.meet(one, other, third)


def replayed(hall, log):
    """A copy of a hall on which the commands of a log are made, one after the other."""
    if not isinstance(hall, Hall):
        raise InvalidHall(hall)
    if not isinstance(log, list) or not all([is_logged(command) for command in log]):
        raise InvalidLog(log)
    found = hall.copy()
    for command in log:
        carry_out(found, command)
    return found
