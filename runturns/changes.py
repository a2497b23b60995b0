"""Books put in and taken out: what a change does to runs and turns, and which books and changes part shelves."""

from runturns.counts import is_count_below
from runturns.errors import InvalidBook, InvalidCount, InvalidLot, InvalidRun, Refused
from runturns.homes import are_joined, are_of_one_class, awry_runs, check_one_class, core_of, home_of
from runturns.least import least_lots
from runturns.runs import all_runs
from runturns.shelves import Shelf, are_ascending, books_with_at, books_without, changed, check_alike, check_book_of
from runturns.shelves import check_changes, check_shelf, cut_to, fits, is_book, is_lot_of_books
from runturns.sorting import can_be_sorted
from runturns.ways import fewest_turns


def _forms_of(run, change):
    """The lots of books, each sorted, any of which a run has to be on the changed shelf so that it stays."""
    word, book = change[0], change[1]
    if word == "put":
        return [sorted(run), sorted(list(run) + [book])]
    return [sorted(books_without(run, book)) if word == "out" else sorted(run)]


def _stay(shelf, change):
    """The ascending lists of the runs that stay under a change, and of those that do not."""
    behind = [sorted(run) for run in all_runs(changed(shelf, change))]
    runs = all_runs(shelf)
    kept = [run for run in runs if any([form in behind for form in _forms_of(run, change)])]
    return kept, [run for run in runs if run not in kept]


def kept_runs(shelf, change):
    """The ascending list of the runs that stay under a change."""
    return _stay(shelf, change)[0]


def lost_runs(shelf, change):
    """The ascending list of the runs that do not stay under a change."""
    return _stay(shelf, change)[1]


def new_runs(shelf, change):
    """The ascending list of the runs of the changed shelf that come of no run of the shelf."""
    behind = all_runs(changed(shelf, change))
    forms = [form for run in all_runs(shelf) for form in _forms_of(run, change)]
    return [run for run in behind if sorted(run) not in forms]


def _check_can_go(shelf, book):
    """Raise InvalidShelf, InvalidBook unless a book of a shelf is handed, and another one is there."""
    check_book_of(shelf, book)
    if not fits(shelf, ("out", book)):
        raise InvalidBook(book)


def _taken_out(shelf, book):
    return changed(shelf, ("out", book))


def rest_runs(shelf, book):
    """The awry runs of the shelf that the home of a shelf becomes when a book is taken out."""
    _check_can_go(shelf, book)
    return awry_runs(_taken_out(home_of(shelf), book))


def lot_without(shelf, book):
    """The awry runs of the shelf that a shelf becomes when a book is taken out."""
    _check_can_go(shelf, book)
    return awry_runs(_taken_out(shelf, book))


def lessened(one, other, book):
    """How many turns fewer lead from one shelf to the other if a book is taken out of both."""
    check_alike(one, other)
    _check_can_go(one, book)
    check_one_class([one, other])
    return fewest_turns(one, other) - fewest_turns(_taken_out(one, book), _taken_out(other, book))


def _are_joined_without(one, other, out):
    rest = [book for book in one.catalogue() if book not in out]
    return are_joined(cut_to(one, rest), cut_to(other, rest))


def joining_lots(one, other):
    """The ascending list of the least lists of books without which two shelves are joined."""
    check_alike(one, other)
    books = sorted(one.catalogue())
    return least_lots(books, len(books) - 1, lambda out: _are_joined_without(one, other, out))


def _put_at_each_place(shelf, book, entry):
    """The shelves with a new book at an entry and at each place, in the order of the places."""
    check_shelf(shelf)
    row = shelf.row()
    if not is_book(book) or book in row:
        raise InvalidBook(book)
    if not is_count_below(entry, len(row) + 1):
        raise InvalidCount(entry)
    return [changed(shelf, ("put", book, entry, place)) for place in range(len(row) + 1)]


def turns_at(shelf, book, entry):
    """The numbers of awry runs with a new book at an entry and at each place, in the order of the places."""
    return [len(awry_runs(made)) for made in _put_at_each_place(shelf, book, entry)]


def best_places(shelf, book, entry):
    """The ascending list of the places of a new book at an entry with the fewest awry runs."""
    turns = turns_at(shelf, book, entry)
    return [place for place, many in enumerate(turns) if many == min(turns)]


def joined_places(shelf, book, entry):
    """The ascending list of the ascending lists of places of a new book at an entry whose shelves are joined."""
    cores = [core_of(made) for made in _put_at_each_place(shelf, book, entry)]
    lots = [[place for place, core in enumerate(cores) if core == mine] for mine in cores]
    # Each lot is found at each of its places.
    return [lot for at, lot in enumerate(lots) if lot[0] == at]


def _listed_at_each_entry(shelf, book):
    """The shelves with a book listed at each entry of the catalogue, the row kept, in the order of the entries."""
    rest = books_without(shelf.catalogue(), book)
    catalogues = [books_with_at(rest, book, entry) for entry in range(len(rest) + 1)]
    return [Shelf(catalogue, shelf.row()) for catalogue in catalogues]


def turns_listed(shelf, book):
    """The numbers of awry runs with a book listed at each entry of the catalogue, in the order of the entries."""
    check_book_of(shelf, book)
    return [len(awry_runs(made)) for made in _listed_at_each_entry(shelf, book)]


def sorting_entries(shelf, book):
    """The ascending list of the entries of a book with which the shelf can be sorted."""
    check_book_of(shelf, book)
    return [entry for entry, made in enumerate(_listed_at_each_entry(shelf, book)) if can_be_sorted(made)]


def _check_part(books, book, part):
    """Raise InvalidShelf, Refused unless a shelf is handed that has none of some books, but for one of them."""
    check_shelf(part)
    if any([one in books and one != book for one in part.catalogue()]):
        raise Refused(part)


def _put_for_book(books, book, others):
    """Some books, others in the place of one of them."""
    at = books.index(book)
    return books[:at] + others + books[at + 1:]


def put_for(shelf, book, part):
    """The shelf with the books of another shelf, in their orders, in the place of a book."""
    check_book_of(shelf, book)
    catalogue, row = shelf.catalogue(), shelf.row()
    _check_part(catalogue, book, part)
    return Shelf(_put_for_book(catalogue, book, part.catalogue()), _put_for_book(row, book, part.row()))


def run_spread(run, book, part):
    """The run with the books of a shelf, in the order of its catalogue, in the place of a book."""
    if not is_lot_of_books(run):
        raise InvalidRun(run)
    if not is_book(book):
        raise InvalidBook(book)
    _check_part(run, book, part)
    return tuple(_put_for_book(list(run), book, part.catalogue())) if book in run else run


def _shelf_of_lot(shelf, changes, lot):
    """The shelf that the changes at some positions make, one after the other, None if one does not fit."""
    reached = shelf
    for at in lot:
        if not fits(reached, changes[at]):
            return None
        reached = changed(reached, changes[at])
    return reached


def lot_shelf(shelf, changes, lot):
    """The shelf of a lot of changes, None if there is none."""
    check_shelf(shelf)
    check_changes(changes)
    if not isinstance(lot, list) or not all([is_count_below(at, len(changes)) for at in lot]) or not are_ascending(lot):
        raise InvalidLot(lot)
    return _shelf_of_lot(shelf, changes, lot)


def _least_changes(one, other, changes, joined):
    """The ascending list of the least lots of changes whose two shelves are joined, or are not, as told."""
    check_alike(one, other)
    check_changes(changes)

    def holds(lot):
        first, second = _shelf_of_lot(one, changes, lot), _shelf_of_lot(other, changes, lot)
        return first is not None and second is not None and are_of_one_class(first, second) == joined
    return least_lots(list(range(len(changes))), len(changes), holds)


def parting_changes(one, other, changes):
    """The ascending list of the least lots of changes whose two shelves are not joined."""
    return _least_changes(one, other, changes, False)


def meeting_changes(one, other, changes):
    """The ascending list of the least lots of changes whose two shelves are joined."""
    return _least_changes(one, other, changes, True)
