"""Shelves of which some runs may not be turned."""

from runturns.counts import is_count
from runturns.errors import InvalidArms, InvalidCatalogue, InvalidCount
from runturns.homes import awry_runs, check_one_class
from runturns.lots import shelf_awry_by, turnable_runs
from runturns.runs import neighbours_of, overlaps_one_of
from runturns.shelves import are_ascending, check_alike, check_shelf, is_catalogue
from runturns.tables import many_lots
from runturns.ways import differing_runs, is_shortest_way, shortest_way


def _are_barred(catalogue, value):
    """Whether any object is an ascending list of tuples of neighbouring entries of a catalogue."""
    lots = neighbours_of(catalogue)
    return isinstance(value, list) and all([run in lots for run in value]) and are_ascending(value)


def _check_barred(shelf, barred):
    if not _are_barred(shelf.catalogue(), barred):
        raise InvalidArms(barred)


def _check_two(one, other, barred):
    check_alike(one, other)
    _check_barred(one, barred)


def _check_one(shelf, barred):
    check_shelf(shelf)
    _check_barred(shelf, barred)


def joined_without(one, other, barred):
    """Whether turns, none of a barred run, lead from one shelf to the other."""
    _check_two(one, other, barred)
    differing = differing_runs(one, other)
    return differing is not None and not any([run in barred for run in differing])


def turns_without(one, other, barred):
    """Any turns of runs that are not barred, as few as can be, None if there are none."""
    return shortest_way(one, other) if joined_without(one, other, barred) else None


def are_turns_without(one, other, barred, value):
    """Whether any object is turns of runs that are not barred, as few as can be."""
    # All shortest ways turn just the differing runs.
    return joined_without(one, other, barred) and is_shortest_way(one, other, value)


def barring_runs(one, other, barred):
    """The ascending list of the barred runs that stand awry in just one of two joined shelves."""
    _check_two(one, other, barred)
    check_one_class([one, other])
    return [run for run in differing_runs(one, other) if run in barred]


def _barred_and_awry(shelf, barred):
    return [run for run in awry_runs(shelf) if run in barred]


def many_without(shelf, barred):
    """To how many shelves turns of runs that are not barred lead from a shelf, itself among them."""
    _check_one(shelf, barred)
    kept = _barred_and_awry(shelf, barred)
    free = [run for run in turnable_runs(shelf) if run not in barred and not overlaps_one_of(run, kept)]
    return many_lots(shelf, free)


def parts_without(shelf, barred):
    """In how many parts the class of a shelf falls if the barred runs are not turned."""
    _check_one(shelf, barred)
    return many_lots(shelf, barred)


def least_arms(one, other):
    """The least number of books such that turns of runs of at most so many lead from one shelf to the other."""
    differing = differing_runs(one, other)
    return None if differing is None else max([len(run) for run in differing], default=0)


def barred_by_size(catalogue, most):
    """The ascending list of the tuples of neighbouring entries, of two books or more, that have more than the most."""
    if not is_catalogue(catalogue):
        raise InvalidCatalogue(catalogue)
    if not is_count(most):
        raise InvalidCount(most)
    return [lot for lot in neighbours_of(catalogue) if len(lot) > most]


def needless_bars(shelf, barred):
    """The ascending list of the barred runs without which the part of a shelf is the same."""
    _check_one(shelf, barred)
    turnable, kept = turnable_runs(shelf), _barred_and_awry(shelf, barred)
    return [run for run in barred if run not in turnable or overlaps_one_of(run, kept)]


def least_of_part(shelf, barred):
    """The shelf with the fewest awry runs of those to which turns of runs that are not barred lead."""
    _check_one(shelf, barred)
    return shelf_awry_by(shelf, _barred_and_awry(shelf, barred))
