"""Lots of runs that stand awry together: each is that of just one shelf of a class."""

from runturns.errors import InvalidFaces, InvalidLot, InvalidRun
from runturns.homes import are_of_one_class, awry_runs, check_joined, class_heaps, home_of
from runturns.knots import BOOK, CROSSED, all_knots, unions_of
from runturns.runs import all_runs, books_overlap, check_turns, turned_about
from runturns.shelves import Shelf, are_ascending, check_alike, check_shelf

SIGNS = ("+", "-")


def turnable_runs(shelf):
    """The ascending list of the runs that stand awry in some shelf joined with a shelf."""
    crossed = [knot.books for knot in all_knots(shelf) if knot.kind == CROSSED]
    return sorted(crossed + [run for things in class_heaps(shelf) for run in unions_of(things)])


def _clashes(runs):
    """The tuples of two runs of a list that overlap."""
    pairs = [(one, other) for at, one in enumerate(runs) for other in runs[at + 1:]]
    return [pair for pair in pairs if books_overlap(pair[0], pair[1])]


def _are_turnable(shelf, value):
    """Whether any object is an ascending list of turnable runs."""
    turnable = turnable_runs(shelf)
    return isinstance(value, list) and all([run in turnable for run in value]) and are_ascending(value)


def is_lot(shelf, value):
    """Whether any object is an ascending list of turnable runs, no two of which overlap."""
    return _are_turnable(shelf, value) and _clashes(value) == []


def shelf_awry_by(shelf, runs):
    """The shelf joined with a shelf in which just some turnable runs stand awry, of which no two overlap."""
    reached = home_of(shelf)
    for run in runs:
        reached = turned_about(reached, run)
    return reached


def shelf_of(shelf, lot):
    """The shelf joined with a shelf in which just the runs of a lot stand awry."""
    if not is_lot(shelf, lot):
        raise InvalidLot(lot)
    return shelf_awry_by(shelf, lot)


def _checked_clashes(shelf, runs):
    if not _are_turnable(shelf, runs):
        raise InvalidLot(runs)
    return _clashes(runs)


def clash(shelf, runs):
    """Any two of some turnable runs that overlap, the lesser one first, None if there are none."""
    found = _checked_clashes(shelf, runs)
    return found[0] if found != [] else None


def is_clash(shelf, runs, value):
    """Whether any object is a tuple of two of some turnable runs that overlap, the lesser one first."""
    return value in _checked_clashes(shelf, runs)


def coming_runs(shelf):
    """The ascending list of the runs of a shelf that do not stand awry."""
    awry = awry_runs(shelf)
    return [run for run in all_runs(shelf) if run not in awry]


def is_full(shelf):
    """Whether in no other shelf joined with a shelf all runs stand awry that do so in it."""
    return coming_runs(shelf) == []


def filled(shelf):
    """Any full shelf, joined with a shelf, in which all of its runs awry stand awry."""
    reached, coming = shelf, coming_runs(shelf)
    while coming != []:
        reached = turned_about(reached, coming[0])
        coming = coming_runs(reached)
    return reached


def is_filled(shelf, value):
    """Whether any object is a full shelf, joined with a shelf, in which all of its runs awry stand awry."""
    check_shelf(shelf)
    if not isinstance(value, Shelf) or not are_of_one_class(shelf, value):
        return False
    awry = awry_runs(value)
    return is_full(value) and all([run in awry for run in awry_runs(shelf)])


def met(one, other):
    """The shelf in which just the runs stand awry that do in both of two joined shelves."""
    check_joined(one, other)
    others = awry_runs(other)
    return shelf_awry_by(one, [run for run in awry_runs(one) if run in others])


def either(one, other):
    """The shelf in which just the runs stand awry that do in one of two joined shelves, None if two overlap."""
    check_joined(one, other)
    firsts = awry_runs(one)
    runs = firsts + [run for run in awry_runs(other) if run not in firsts]
    return shelf_awry_by(one, runs) if _clashes(runs) == [] else None


def barred_by(shelf, run):
    """The ascending list of the runs awry of a shelf that overlap a turnable run."""
    if run not in turnable_runs(shelf):
        raise InvalidRun(run)
    return [awry for awry in awry_runs(shelf) if books_overlap(awry, run)]


def faces(shelf):
    """The faces of the books in the order of the catalogue: the sign of the least knot of two books or more."""
    signs = {part.books[0]: knot.sign for knot in all_knots(shelf) for part in knot.parts if part.kind == BOOK}
    # A book that stands alone is no part of a knot.
    return {book: signs.get(book, "+") for book in shelf.catalogue()}


def turned_over(shelf, turns):
    """The ascending list of the books that turns turn over an odd number of times."""
    check_turns(shelf, turns)
    often = {book: len([run for run in turns if book in run]) for book in shelf.catalogue()}
    return sorted([book for book in often if often[book] % 2 == 1])


def _are_faces(books, value):
    """Whether any object is a dictionary from just some books to signs."""
    if not isinstance(value, dict) or len(value) != len(books):
        return False
    return all([book in value and value[book] in SIGNS for book in books])


def _check_faces(shelf, value):
    if not _are_faces(shelf.catalogue(), value):
        raise InvalidFaces(value)


def joined_with_faces(one, up, other, more):
    """Whether some turns lead from one shelf to the other such that books with the faces `up` then have `more`."""
    check_alike(one, other)
    _check_faces(one, up)
    _check_faces(one, more)
    if not are_of_one_class(one, other):
        return False
    firsts, others = faces(one), faces(other)
    return all([(up[book] == more[book]) == (firsts[book] == others[book]) for book in up])
