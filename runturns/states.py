"""What a hall holds at one time, and how it came to be so."""

from runturns.ways import differing_runs


class State:
    """Shelves and wishes by their spots, barred runs, and the next spot; a state never changes."""

    def __init__(self, shelves, wishes, bars, next_spot):
        self.shelves = shelves
        self.wishes = wishes
        self.bars = bars
        self.next_spot = next_spot

    def with_shelf(self, spot, shelf):
        """The state with a shelf at a spot."""
        return State({**self.shelves, spot: shelf}, self.wishes, self.bars, self.next_spot)

    def with_wish(self, spot, goal):
        """The state with a wish at a spot."""
        return State(self.shelves, {**self.wishes, spot: goal}, self.bars, self.next_spot)

    def with_bars(self, bars):
        """The state with other barred runs."""
        return State(self.shelves, self.wishes, bars, self.next_spot)

    def with_new_spot(self, shelf):
        """The state with a shelf at the next spot."""
        return State({**self.shelves, self.next_spot: shelf}, self.wishes, self.bars, self.next_spot + 1)

    def without_wish(self, spot):
        """The state without the wish of a spot, if it has one."""
        return State(self.shelves, _without(self.wishes, spot), self.bars, self.next_spot)

    def without_spot(self, spot):
        """The state without a spot and its wish."""
        return State(_without(self.shelves, spot), _without(self.wishes, spot), self.bars, self.next_spot)

    def needed_at(self, spot):
        """The runs that stand awry in just one of the shelf at a spot and its wish, None without a wish."""
        return differing_runs(self.shelves[spot], self.wishes[spot]) if spot in self.wishes else None

    def needed_anywhere(self):
        """The runs that are needed at some spot."""
        return [run for spot in self.wishes for run in self.needed_at(spot)]


def _without(table, spot):
    return {other: table[other] for other in table if other != spot}


class Moment:
    """A state, the commands made up to it, and those taken back since; a moment never changes.

    A command that was made stands beside the state ahead of it, one that was taken back beside the one behind it.
    """

    def __init__(self, state, done, undone):
        self.state = state
        self.done = done
        self.undone = undone

    def behind(self, command, state):
        """The moment behind a new command that makes a state."""
        return Moment(state, self.done + [(command, self.state)], [])

    def taken_back(self):
        """The moment in which the last command is taken back."""
        command, state = self.done[-1]
        return Moment(state, self.done[:-1], self.undone + [(command, self.state)])

    def made_again(self):
        """The moment in which the command that was taken back last is made again."""
        command, state = self.undone[-1]
        return Moment(state, self.done + [(command, self.state)], self.undone[:-1])
