"""Runs of a shelf: stretches of the row whose books are neighbours in the catalogue, too."""

from runturns.counts import is_count, is_count_below
from runturns.errors import InvalidBooks, InvalidCount, InvalidRun, InvalidTurns
from runturns.shelves import Shelf, are_unlike_of, check_shelf, ranks


def are_gapless(entries):
    """Whether some unlike whole numbers are neighbours, none missing between, in whatever order."""
    return max(entries) - min(entries) == len(entries) - 1


def _run_of_entries(catalogue, entries):
    """The run whose books have some entries, those of a stretch; None if one is missing between."""
    if not are_gapless(entries):
        return None
    first = min(entries)
    return tuple(catalogue[first:first + len(entries)])


def neighbours_of(catalogue):
    """The ascending list of the tuples of two or more neighbours: the runs that some shelf has."""
    many = len(catalogue)
    return sorted([tuple(catalogue[start:end]) for start in range(many) for end in range(start + 2, many + 1)])


def all_runs(shelf):
    """The ascending list of the runs."""
    entries, catalogue = ranks(shelf), shelf.catalogue()
    many = len(entries)
    stretches = [entries[start:end] for start in range(many) for end in range(start + 2, many + 1)]
    named = [_run_of_entries(catalogue, stretch) for stretch in stretches]
    return sorted([run for run in named if run is not None])


def is_run(shelf, value):
    """Whether any object is a run of a shelf, by its name."""
    return value in all_runs(shelf)


def check_run(shelf, run):
    """Raise InvalidShelf, InvalidRun unless a run of a shelf is handed."""
    if not is_run(shelf, run):
        raise InvalidRun(run)


def run_place(shelf, run):
    """The place at which a run begins in the row, and the number of its books."""
    check_run(shelf, run)
    row = shelf.row()
    return min([row.index(book) for book in run]), len(run)


def run_entry(shelf, run):
    """The entry at which a run begins in the catalogue."""
    check_run(shelf, run)
    return shelf.catalogue().index(run[0])


def run_at(shelf, place, size):
    """The run that is the stretch of so many books from a place on, None if this is no run."""
    entries = ranks(shelf)
    if not is_count_below(place, len(entries)):
        raise InvalidCount(place)
    if not is_count(size) or size < 2 or place + size > len(entries):
        raise InvalidCount(size)
    return _run_of_entries(shelf.catalogue(), entries[place:place + size])


def turned_about(shelf, run):
    """The shelf with a run turned that surely is one."""
    row = shelf.row()
    start = min([row.index(book) for book in run])
    end = start + len(run)
    return Shelf(shelf.catalogue(), row[:start] + row[start:end][::-1] + row[end:])


def run_turned(shelf, run):
    """The shelf with the books of a run in the contrary order where they stand."""
    check_run(shelf, run)
    return turned_about(shelf, run)


def shelf_behind(shelf, value):
    """The shelf to which any object leads, if it is turns of a shelf, None if it is not."""
    if not isinstance(value, list):
        return None
    reached = shelf
    for run in value:
        if not is_run(reached, run):
            return None
        reached = turned_about(reached, run)
    return reached


def check_turns(shelf, turns):
    """Raise InvalidShelf, InvalidTurns unless turns of a shelf are handed."""
    check_shelf(shelf)
    if shelf_behind(shelf, turns) is None:
        raise InvalidTurns(turns)


def _shared(one, other):
    return [book for book in one if book in other]


def each_alone(one, other):
    """Those of one list of runs that are not in the other one, and those of the other that are not in the one."""
    return [run for run in one if run not in other], [run for run in other if run not in one]


def books_overlap(one, other):
    """Whether two tuples of books overlap as sets: they share a book and none holds the other one."""
    shared = len(_shared(one, other))
    return shared > 0 and shared < len(one) and shared < len(other)


def overlaps_one_of(run, others):
    """Whether a tuple of books overlaps one of some others."""
    return any([books_overlap(run, other) for other in others])


def _check_two_runs(shelf, one, other):
    check_run(shelf, one)
    check_run(shelf, other)


def _check_overlapping(shelf, one, other):
    _check_two_runs(shelf, one, other)
    if not books_overlap(one, other):
        raise InvalidRun(other)


def overlap(shelf, one, other):
    """Whether two runs share a book and none holds the other one."""
    _check_two_runs(shelf, one, other)
    return books_overlap(one, other)


def overlapping(shelf, run):
    """The ascending list of the runs that overlap a run."""
    check_run(shelf, run)
    return [other for other in all_runs(shelf) if books_overlap(run, other)]


def meet_of(shelf, one, other):
    """The books that both of two runs that overlap have, in the order of the catalogue."""
    _check_overlapping(shelf, one, other)
    return tuple(_shared(one, other))


def union_of(shelf, one, other):
    """The books that one of two runs that overlap has, in the order of the catalogue."""
    _check_overlapping(shelf, one, other)
    return tuple([book for book in shelf.catalogue() if book in one or book in other])


def rests_of(shelf, one, other):
    """The books that just one of two runs that overlap has, and those that just the other one has."""
    _check_overlapping(shelf, one, other)
    return [tuple([book for book in one if book not in other]), tuple([book for book in other if book not in one])]


def least_run(shelf, books):
    """The run with as few books as can be that has all of some books."""
    check_shelf(shelf)
    if not are_unlike_of(shelf.catalogue(), books) or len(books) < 2:
        raise InvalidBooks(books)
    around = [run for run in all_runs(shelf) if len(_shared(books, run)) == len(books)]
    return min(around, key=len)
