"""Books, catalogues and shelves, and what shelves become by changes."""

from math import factorial

from runturns.counts import is_count, is_count_below
from runturns.errors import InvalidBook, InvalidBooks, InvalidCatalogue, InvalidChange, InvalidChanges
from runturns.errors import InvalidCount, InvalidNames, InvalidRow, InvalidShelf, Unlike

LETTERS = "abcdefghijklmnopqrstuvwxyz"
MOST_LETTERS = 8

# How many counts stand behind the book, for the word of each change.
COUNTS_BEHIND = {"put": 2, "out": 0, "move": 1, "list": 1}


def is_book(value):
    """Whether any object is a book."""
    if not isinstance(value, str) or value == "" or len(value) > MOST_LETTERS:
        return False
    return all([letter in LETTERS for letter in value])


def is_catalogue(value):
    """Whether any object is a catalogue."""
    if not isinstance(value, list) or value == []:
        return False
    return all([is_book(book) for book in value]) and len(set(value)) == len(value)


def is_lot_of_books(value):
    """Whether any object is a tuple of two or more unlike books."""
    return isinstance(value, tuple) and len(value) > 1 and is_catalogue(list(value))


def are_ascending(value):
    """Whether a list of books, or one of tuples of books, ascends without doubles."""
    return all([one < other for one, other in zip(value, value[1:])])


def are_unlike_of(books, value):
    """Whether any object is a list of unlike ones of some books, in any order, perhaps empty."""
    if not isinstance(value, list):
        return False
    return all([book in books for book in value]) and len(set(value)) == len(value)


def are_ascending_of(books, value):
    """Whether any object is an ascending list of ones of some books, perhaps empty."""
    return are_unlike_of(books, value) and are_ascending(value)


def is_row_of(catalogue, value):
    """Whether any object is a row of a catalogue."""
    return are_unlike_of(catalogue, value) and len(value) == len(catalogue)


class Shelf:
    """A catalogue and a row of it; a shelf never changes."""

    def __init__(self, catalogue, row):
        if not is_catalogue(catalogue):
            raise InvalidCatalogue(catalogue)
        if not is_row_of(catalogue, row):
            raise InvalidRow(row)
        self._catalogue = list(catalogue)
        self._row = list(row)

    def __eq__(self, other):
        return isinstance(other, Shelf) and self._catalogue == other._catalogue and self._row == other._row

    def catalogue(self):
        """A new list of the books in the order of the catalogue."""
        return list(self._catalogue)

    def row(self):
        """A new list of the books as they stand."""
        return list(self._row)


def check_shelf(shelf):
    """Raise InvalidShelf unless an object is a shelf."""
    if not isinstance(shelf, Shelf):
        raise InvalidShelf(shelf)


def check_one_catalogue(shelves):
    """Raise Unlike with the first of some shelves whose catalogue is not that of the first one."""
    for shelf in shelves:
        if shelf.catalogue() != shelves[0].catalogue():
            raise Unlike(shelf)


def check_alike(one, other):
    """Raise InvalidShelf, Unlike unless two shelves of one catalogue are handed."""
    check_shelf(one)
    check_shelf(other)
    check_one_catalogue([one, other])


def check_book_of(shelf, book):
    """Raise InvalidShelf, InvalidBook unless a book of a shelf is handed."""
    check_shelf(shelf)
    if book not in shelf.catalogue():
        raise InvalidBook(book)


def ranks(shelf):
    """The entries at which the books of the row stand in the catalogue, in the order of the row."""
    check_shelf(shelf)
    entries = {book: entry for entry, book in enumerate(shelf.catalogue())}
    return [entries[book] for book in shelf.row()]


def place_of(shelf, book):
    """The place of a book in the row."""
    check_book_of(shelf, book)
    return shelf.row().index(book)


def entry_of(shelf, book):
    """The entry of a book in the catalogue."""
    check_book_of(shelf, book)
    return shelf.catalogue().index(book)


def sorted_shelf(catalogue):
    """The shelf whose row is the catalogue."""
    return Shelf(catalogue, catalogue)


def is_change(value):
    """Whether any object is a change by its form, whatever shelf it fits."""
    if not isinstance(value, tuple) or len(value) < 2 or not isinstance(value[0], str):
        return False
    behind = COUNTS_BEHIND.get(value[0])
    if behind is None or len(value) != 2 + behind or not is_book(value[1]):
        return False
    return all([is_count(number) for number in value[2:]])


def check_changes(changes):
    """Raise InvalidChanges unless a list of changes by their form is handed."""
    if not isinstance(changes, list) or not all([is_change(change) for change in changes]):
        raise InvalidChanges(changes)


def fits(shelf, change):
    """Whether a change, by its form one, fits a shelf."""
    word, book = change[0], change[1]
    row = shelf.row()
    if word == "put":
        return book not in row and change[2] <= len(row) and change[3] <= len(row)
    if book not in row:
        return False
    if word == "out":
        return len(row) > 1
    order = row if word == "move" else shelf.catalogue()
    return change[2] < len(order) and order[change[2]] != book


def books_without(books, book):
    """The list of some books, without one of them."""
    return [one for one in books if one != book]


def books_with_at(books, book, at):
    """The list of some books, with a new one at a position."""
    return books[:at] + [book] + books[at:]


def _made(shelf, change):
    """The shelf that a change makes of one that it fits."""
    word, book, catalogue, row = change[0], change[1], shelf.catalogue(), shelf.row()
    if word == "put":
        return Shelf(books_with_at(catalogue, book, change[2]), books_with_at(row, book, change[3]))
    if word == "out":
        return Shelf(books_without(catalogue, book), books_without(row, book))
    if word == "move":
        return Shelf(catalogue, books_with_at(books_without(row, book), book, change[2]))
    return Shelf(books_with_at(books_without(catalogue, book), book, change[2]), row)


def changed(shelf, change):
    """The shelf that a change makes."""
    check_shelf(shelf)
    if not is_change(change) or not fits(shelf, change):
        raise InvalidChange(change)
    return _made(shelf, change)


def changed_by(shelf, changes):
    """The shelf that a list of changes makes, one after the other."""
    check_shelf(shelf)
    check_changes(changes)
    reached = shelf
    for change in changes:
        if not fits(reached, change):
            raise InvalidChange(change)
        reached = _made(reached, change)
    return reached


def mirrored(shelf):
    """The shelf with the row in the contrary order."""
    check_shelf(shelf)
    return Shelf(shelf.catalogue(), shelf.row()[::-1])


def flipped(shelf):
    """The shelf with the catalogue in the contrary order."""
    check_shelf(shelf)
    return Shelf(shelf.catalogue()[::-1], shelf.row())


def exchanged(shelf):
    """The shelf whose catalogue is the row and whose row is the catalogue."""
    check_shelf(shelf)
    return Shelf(shelf.row(), shelf.catalogue())


def _are_names(books, value):
    """Whether any object is a dictionary from just some books to unlike books."""
    if not isinstance(value, dict) or len(value) != len(books):
        return False
    if not all([book in value and is_book(value[book]) for book in books]):
        return False
    return len(set([value[book] for book in books])) == len(books)


def renamed(shelf, names):
    """The shelf with its books' names exchanged."""
    check_shelf(shelf)
    if not _are_names(shelf.catalogue(), names):
        raise InvalidNames(names)
    return Shelf([names[book] for book in shelf.catalogue()], [names[book] for book in shelf.row()])


def cut_to(shelf, books):
    """The shelf of some books: catalogue and row without all others."""
    check_shelf(shelf)
    if not are_unlike_of(shelf.catalogue(), books) or books == []:
        raise InvalidBooks(books)
    return Shelf([book for book in shelf.catalogue() if book in books], [book for book in shelf.row() if book in books])


def shelf_at(catalogue, number):
    """The shelf with a number, of those of a catalogue, ascending by their ranks."""
    if not is_catalogue(catalogue):
        raise InvalidCatalogue(catalogue)
    if not is_count_below(number, factorial(len(catalogue))):
        raise InvalidCount(number)
    left, row, rest = list(catalogue), [], number
    while left != []:
        # So many shelves begin alike up to here and go on with any one book of those left.
        alike = factorial(len(left) - 1)
        row.append(left.pop(rest // alike))
        rest = rest % alike
    return Shelf(catalogue, row)


def shelf_number(shelf):
    """The number of a shelf, of those of its catalogue, ascending by their ranks."""
    entries = ranks(shelf)
    number = 0
    for place, entry in enumerate(entries):
        behind = entries[place + 1:]
        number += len([later for later in behind if later < entry]) * factorial(len(behind))
    return number
