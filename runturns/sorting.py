"""Shelves that can be sorted, the fours of books that keep others from it, and the books that have to go."""

from itertools import combinations

from runturns.errors import InvalidBooks
from runturns.homes import awry_runs
from runturns.knots import BOOK, CROSSED, all_knots, crossed_knot_named, whole_knot
from runturns.least import least_lots, lies_in
from runturns.runs import all_runs
from runturns.shelves import are_ascending_of, check_shelf, cut_to, is_book, ranks

SIGNS = ("+", "-")


def can_be_sorted(shelf):
    """Whether turns lead from a shelf to the one whose row is the catalogue."""
    return not any([knot.kind == CROSSED for knot in all_knots(shelf)])


def sorting_turns(shelf):
    """The least number of turns that sort a shelf, None if none do."""
    return len(awry_runs(shelf)) if can_be_sorted(shelf) else None


def _bad_fours_of(entries):
    """Those fours of some entries, in the order of the row, that are bad."""
    return [(a, b, c, d) for a, b, c, d in combinations(entries, 4) if c < a < d < b or b < d < a < c]


def bad_fours(shelf):
    """The ascending list of the bad fours."""
    entries, catalogue = ranks(shelf), shelf.catalogue()
    return sorted([tuple([catalogue[entry] for entry in four]) for four in _bad_fours_of(entries)])


def is_bad_four(shelf, value):
    """Whether any object is a bad four of a shelf."""
    return value in bad_fours(shelf)


def _bad_fours_in(shelf, knot):
    """The bad fours of books that lie in four unlike parts of a crossed knot."""
    parts = [part.books for part in crossed_knot_named(shelf, knot).parts]
    number = {book: at for at, books in enumerate(parts) for book in books}
    within = [four for four in bad_fours(shelf) if all([book in number for book in four])]
    return [four for four in within if len(set([number[book] for book in four])) == 4]


def bad_four_in(shelf, knot):
    """Any bad four whose books lie in four unlike parts of a crossed knot."""
    return _bad_fours_in(shelf, knot)[0]


def is_bad_four_in(shelf, knot, value):
    """Whether any object is a bad four whose books lie in four unlike parts of a crossed knot."""
    return value in _bad_fours_in(shelf, knot)


def _nest_of_knot(knot):
    if knot.kind == BOOK:
        return knot.books[0]
    return tuple([knot.sign] + [_nest_of_knot(part) for part in knot.parts])


def nest(shelf):
    """The nest of a shelf in which no tuple has a nest of its own sign, None if there is none."""
    return _nest_of_knot(whole_knot(shelf)) if can_be_sorted(shelf) else None


def _stand_as_told(catalogue, sign, lots):
    """Whether all books of each lot stand in the catalogue ahead of those of the next one, for "-" behind them."""
    entries = [[catalogue.index(book) for book in lot] for lot in lots]
    if sign == "-":
        entries = entries[::-1]
    return all([max(ahead) < min(behind) for ahead, behind in zip(entries, entries[1:])])


def _books_of_nest(catalogue, value):
    """The books of any object from left to right, as of a nest; None if it is one of no row of the catalogue."""
    if is_book(value):
        return [value] if value in catalogue else None
    if not isinstance(value, tuple) or len(value) < 3 or value[0] not in SIGNS:
        return None
    lots = [_books_of_nest(catalogue, inner) for inner in value[1:]]
    if None in lots or not _stand_as_told(catalogue, value[0], lots):
        return None
    return [book for lot in lots for book in lot]


def is_nest(shelf, value):
    """Whether any object is a nest of a shelf."""
    check_shelf(shelf)
    return _books_of_nest(shelf.catalogue(), value) == shelf.row()


def sorts_without(shelf, books):
    """Whether the shelf cut to all other books can be sorted."""
    check_shelf(shelf)
    catalogue = shelf.catalogue()
    if not are_ascending_of(catalogue, books) or len(books) == len(catalogue):
        raise InvalidBooks(books)
    return can_be_sorted(cut_to(shelf, [book for book in catalogue if book not in books]))


def _has_one_of(lot, books):
    return any([book in lot for book in books])


def least_outs(shelf):
    """The ascending list of the least lists of books without which a shelf can be sorted."""
    fours, books = bad_fours(shelf), sorted(shelf.catalogue())
    return least_lots(books, len(books) - 1, lambda some: all([_has_one_of(four, some) for four in fours]))


def _fewest_outs(shelf):
    """The ascending list of all lists of as few books as can be without which a shelf can be sorted."""
    found = least_outs(shelf)
    fewest = min([len(books) for books in found])
    return [books for books in found if len(books) == fewest]


def books_out(shelf):
    """Any list of as few books as can be without which a shelf can be sorted."""
    return _fewest_outs(shelf)[0]


def fewest_out(shelf):
    """The least number of books without which a shelf can be sorted."""
    return len(books_out(shelf))


def is_books_out(shelf, value):
    """Whether any object is a list of as few books as can be without which a shelf can be sorted."""
    return value in _fewest_outs(shelf)


def always_out(shelf):
    """The ascending list of the books that are in all lists of as few as can be."""
    found = _fewest_outs(shelf)
    return [book for book in found[0] if all([book in books for books in found])]


def never_out(shelf):
    """The ascending list of the books that are in none of the least lists."""
    found = least_outs(shelf)
    return sorted([book for book in shelf.catalogue() if not any([book in books for books in found])])


def sortable_runs(shelf):
    """The ascending list of the greatest runs whose books alone can be sorted."""
    fours = bad_fours(shelf)
    found = [run for run in all_runs(shelf) if not any([lies_in(four, run) for four in fours])]
    return [run for run in found if not any([lies_in(run, other) and run != other for other in found])]
