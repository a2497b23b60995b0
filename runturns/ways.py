"""Turns that lead from one shelf to another, and the shortest ways between two."""

from runturns.counts import is_count_below
from runturns.errors import InvalidCount, InvalidTurns
from runturns.homes import are_joined, awry_runs, check_joined
from runturns.runs import books_overlap, check_turns, each_alone, shelf_behind
from runturns.shelves import check_alike, check_shelf


def led(shelf, turns):
    """The shelf to which turns lead."""
    check_shelf(shelf)
    reached = shelf_behind(shelf, turns)
    if reached is None:
        raise InvalidTurns(turns)
    return reached


def is_way(one, other, value):
    """Whether any object is turns that lead from one shelf to the other."""
    check_alike(one, other)
    reached = shelf_behind(one, value)
    return reached is not None and reached == other


def awry_alone(one, other):
    """The runs that stand awry in just the first one of two shelves, and those in just the second one."""
    return each_alone(awry_runs(one), awry_runs(other))


def _awry_in_just_one(one, other):
    early, late = awry_alone(one, other)
    return sorted(early + late)


def differing_runs(one, other):
    """The ascending list of the runs that stand awry in just one of two shelves, None if these are not joined."""
    return _awry_in_just_one(one, other) if are_joined(one, other) else None


def fewest_turns(one, other):
    """The least number of turns of a way, None if there is none."""
    differing = differing_runs(one, other)
    return None if differing is None else len(differing)


def odd_runs(shelf, turns):
    """The ascending list of the runs that turns turn an odd number of times."""
    check_turns(shelf, turns)
    named = [run for at, run in enumerate(turns) if run not in turns[:at]]
    return sorted([run for run in named if turns.count(run) % 2 == 1])


def shortest_way(one, other):
    """Any way of as few turns as can be, None if there is none."""
    if not are_joined(one, other):
        return None
    # What stands awry in just the first one may be in the way of what has to come in, never the other way about.
    early, late = awry_alone(one, other)
    return early + late


def is_shortest_way(one, other, value):
    """Whether any object is a way of as few turns as can be."""
    return is_way(one, other, value) and len(value) == fewest_turns(one, other)


def _overlapping_pairs(early, late):
    return [(run, later) for run in early for later in late if books_overlap(run, later)]


def ahead_of(one, other):
    """The ascending list of the tuples of two differing runs the first of which all shortest ways turn first."""
    check_joined(one, other)
    early, late = awry_alone(one, other)
    return sorted(_overlapping_pairs(early, late))


class Orders:
    """The orders of the differing runs that are the shortest ways; runs that are turned are told by bits."""

    def __init__(self, one, other):
        early, late = awry_alone(one, other)
        pairs = _overlapping_pairs(early, late)
        self.runs = sorted(early + late)
        self.ahead = [[self.runs.index(run) for run, later in pairs if later == mine] for mine in self.runs]
        self.known = {(1 << len(self.runs)) - 1: 1}

    def openings(self, turned):
        """The positions, ascending, of the runs with which an order goes on behind some that are turned."""
        left = [at for at in range(len(self.runs)) if not _has_bit(turned, at)]
        return [at for at in left if all([_has_bit(turned, first) for first in self.ahead[at]])]

    def count_behind(self, turned):
        """In how many ways an order goes on to its end behind some runs that are turned."""
        if turned not in self.known:
            self.known[turned] = sum([self.count_behind(turned | (1 << at)) for at in self.openings(turned)])
        return self.known[turned]


def _has_bit(bits, at):
    return (bits >> at) % 2 == 1


def many_ways(one, other):
    """How many shortest ways there are."""
    return Orders(one, other).count_behind(0) if are_joined(one, other) else 0


def first_runs(one, other):
    """The ascending list of the runs with which some shortest way begins."""
    lates = [pair[1] for pair in ahead_of(one, other)]
    return [run for run in _awry_in_just_one(one, other) if run not in lates]


def last_runs(one, other):
    """The ascending list of the runs with which some shortest way ends."""
    early = [pair[0] for pair in ahead_of(one, other)]
    return [run for run in _awry_in_just_one(one, other) if run not in early]


def way_at(one, other, number):
    """The shortest way at a position in the ascending list of them."""
    check_joined(one, other)
    orders = Orders(one, other)
    if not is_count_below(number, orders.count_behind(0)):
        raise InvalidCount(number)
    way, turned, left = [], 0, number
    while len(way) < len(orders.runs):
        for at in orders.openings(turned):
            many = orders.count_behind(turned | (1 << at))
            if left < many:
                way.append(orders.runs[at])
                turned = turned | (1 << at)
                break
            # All ways that go on with a lesser run stand ahead in the list.
            left -= many
    return way


def way_place(one, other, turns):
    """The position of turns in the ascending list of the shortest ways, None if they are none."""
    check_joined(one, other)
    if not isinstance(turns, list):
        raise InvalidTurns(turns)
    orders = Orders(one, other)
    place, turned = 0, 0
    for run in turns:
        openings = orders.openings(turned)
        if run not in [orders.runs[at] for at in openings]:
            return None
        mine = orders.runs.index(run)
        place += sum([orders.count_behind(turned | (1 << at)) for at in openings if at < mine])
        turned = turned | (1 << mine)
    return place if len(turns) == len(orders.runs) else None


def even(one, other):
    """Whether ways from one shelf to the other have an even number of turns."""
    check_joined(one, other)
    return len(_awry_in_just_one(one, other)) % 2 == 0
