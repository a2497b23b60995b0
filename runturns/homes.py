"""Runs that stand awry, homes of shelves, and what parts shelves that no turns join."""

from runturns.counts import is_count_below
from runturns.errors import Apart, InvalidCatalogue, InvalidCore
from runturns.knots import BOOK, CROSSED, all_knots, crossed_knot_named, in_order_of_catalogue, numbers_of, whole_knot
from runturns.runs import are_gapless
from runturns.shelves import Shelf, check_alike, check_shelf, is_book, is_catalogue

HEAP = "heap"


def awry_within(knot, sign):
    """The knots that stand awry of a knot and of those within; the sign is that of the knot around it."""
    found = []
    # A book has no sign.
    if knot.sign is not None and knot.sign != sign:
        found.append(knot.books)
    for part in knot.parts:
        found += awry_within(part, knot.sign)
    return found


def awry_runs(shelf):
    """The ascending list of the knots that stand awry."""
    check_shelf(shelf)
    return sorted(awry_within(whole_knot(shelf), "+"))


def things_of(knot):
    """The things of the heap that a straight knot is in the home, in the order of the catalogue."""
    found = []
    for part in knot.parts:
        # In the home all straight knots rise, so one within another is no knot of its own there.
        if part.kind in (BOOK, CROSSED):
            found.append(part)
        else:
            found += things_of(part)
    return in_order_of_catalogue(found)


def heaps_within(knot):
    """The lists of the things of all heaps that a knot and those within are in the home."""
    if knot.kind in (BOOK, CROSSED):
        found, inner = [], knot.parts
    else:
        inner = things_of(knot)
        found = [inner]
    for part in inner:
        found += heaps_within(part)
    return found


def _core_numbers_of(knot):
    numbers = numbers_of(knot)
    return min(numbers, numbers[::-1])


def core_numbers(shelf, knot):
    """The numbers of a crossed knot: the lesser one of its part numbers and the contrary list."""
    return _core_numbers_of(crossed_knot_named(shelf, knot))


def _books_of_parts(knot):
    return [part.books for part in in_order_of_catalogue(knot.parts)]


def core_parts(shelf, knot):
    """The parts of a crossed knot in the order of the catalogue."""
    return _books_of_parts(crossed_knot_named(shelf, knot))


def _core_of_knot(knot):
    if knot.kind == BOOK:
        return knot.books[0]
    if knot.kind == CROSSED:
        return CROSSED, _core_numbers_of(knot), [_core_of_knot(part) for part in in_order_of_catalogue(knot.parts)]
    return HEAP, [_core_of_knot(thing) for thing in things_of(knot)]


def core_of(shelf):
    """The core of a shelf: what all shelves joined with it, and no others, have."""
    check_shelf(shelf)
    return _core_of_knot(whole_knot(shelf))


def _row_of_core(core):
    """The row of the home that has a core."""
    if isinstance(core, str):
        return [core]
    rows = [_row_of_core(inner) for inner in core[-1]]
    order = core[1] if core[0] == CROSSED else list(range(len(rows)))
    return [book for number in order for book in rows[number]]


def home_of(shelf):
    """The shelf joined with a shelf that has no run awry."""
    core = core_of(shelf)
    return Shelf(shelf.catalogue(), _row_of_core(core))


def is_home(shelf):
    """Whether a shelf is its own home."""
    return awry_runs(shelf) == []


def are_of_one_class(one, other):
    """Whether two shelves are of one catalogue and joined; a core has the catalogue's books in their order."""
    return core_of(one) == core_of(other)


def are_joined(one, other):
    """Whether some row of turns leads from one shelf to the other."""
    check_alike(one, other)
    return are_of_one_class(one, other)


def check_joined(one, other):
    """Raise InvalidShelf, Unlike, Apart unless two joined shelves are handed."""
    if not are_joined(one, other):
        raise Apart(other)


def check_one_class(shelves):
    """Raise Apart with the first of some shelves of one catalogue that is not joined with the first one."""
    for shelf in shelves:
        if not are_of_one_class(shelves[0], shelf):
            raise Apart(shelf)


def _crossings(shelf):
    """A dictionary from the crossed knots to their numbers and parts."""
    crossed = [knot for knot in all_knots(shelf) if knot.kind == CROSSED]
    return {knot.books: (_core_numbers_of(knot), _books_of_parts(knot)) for knot in crossed}


def _partings(one, other):
    check_alike(one, other)
    first, second = _crossings(one), _crossings(other)
    named = list(first) + [name for name in second if name not in first]
    return [name for name in named if first.get(name) != second.get(name)]


def parting(one, other):
    """Any crossed knot of just one of two shelves, or of unlike parts or numbers, None if there is none."""
    found = _partings(one, other)
    return found[0] if found != [] else None


def is_parting(one, other, value):
    """Whether any object is a parting of two shelves."""
    return value in _partings(one, other)


def class_heaps(shelf):
    """The list of the heaps of a shelf, each as the list of the knots that are its things."""
    check_shelf(shelf)
    return heaps_within(whole_knot(shelf))


def heaps_of(shelf):
    """The ascending list of the heaps, each as the list of its things in the order of the catalogue."""
    return sorted([[thing.books for thing in things] for things in class_heaps(shelf)])


def _are_core_numbers(value, many):
    """Whether any object is the numbers of some crossed knot of so many parts."""
    if not isinstance(value, list) or len(value) != many or many < 4:
        return False
    if not all([is_count_below(number, many) for number in value]) or len(set(value)) != many:
        return False
    stretches = [value[start:end] for start in range(many) for end in range(start + 2, many + 1) if end - start < many]
    return value < value[::-1] and not any([are_gapless(stretch) for stretch in stretches])


def _is_core_form(value, word, size):
    """Whether any object is a tuple of such a size, first the word and last a list of whatever cores."""
    return isinstance(value, tuple) and len(value) == size and value[0] == word and isinstance(value[-1], list)


def _has_form_of_heap(value):
    return _is_core_form(value, HEAP, 2)


def _is_rightly_made(value):
    """Whether any object is a crossed knot's or a heap's core, as far as what lies within it lets."""
    if _is_core_form(value, CROSSED, 3):
        return _are_core_numbers(value[1], len(value[2]))
    if not _has_form_of_heap(value) or len(value[1]) < 2:
        return False
    return not any([_has_form_of_heap(inner) for inner in value[1]])


def _books_of_core(value):
    """The books of any object from left to right, as of a core; None if it is one of no catalogue."""
    if is_book(value):
        return [value]
    if not _is_rightly_made(value):
        return None
    lots = [_books_of_core(inner) for inner in value[-1]]
    return None if None in lots else [book for lot in lots for book in lot]


def is_core(catalogue, value):
    """Whether any object is the core of some shelf of a catalogue."""
    if not is_catalogue(catalogue):
        raise InvalidCatalogue(catalogue)
    return _books_of_core(value) == catalogue


def shelf_with(catalogue, core):
    """The home of a catalogue that has a core."""
    if not is_core(catalogue, core):
        raise InvalidCore(core)
    return Shelf(catalogue, _row_of_core(core))
