"""Knots of a shelf: the runs that no run overlaps, the books, the whole; and their tree."""

from runturns.errors import InvalidBooks, InvalidKind, InvalidKnot
from runturns.runs import are_gapless, check_run, turned_about
from runturns.shelves import are_ascending_of, check_alike, check_shelf, ranks

BOOK = "book"
RISING = "rising"
FALLING = "falling"
CROSSED = "crossed"
KINDS = (BOOK, RISING, FALLING, CROSSED)


class Knot:
    """A knot: its books and its first entry by the catalogue, its parts in the order of the row."""

    def __init__(self, books, first, kind, parts):
        self.books = books
        self.first = first
        self.kind = kind
        self.parts = parts
        self.sign = _sign_of_parts(parts)


def _sign_of_parts(parts):
    if parts == []:
        return None
    return "+" if parts[0].first < parts[-1].first else "-"


def _rising_cuts(entries):
    """Where a stretch can be cut so that what is ahead stands ahead in the catalogue, too."""
    low = min(entries)
    return [at for at in range(1, len(entries)) if max(entries[:at]) == low + at - 1]


def _falling_cuts(entries):
    """Where a stretch can be cut so that what is ahead stands behind in the catalogue."""
    high = max(entries)
    return [at for at in range(1, len(entries)) if min(entries[:at]) == high - at + 1]


def _crossed_cuts(entries):
    """Where a stretch that has no cut of the two kinds above falls into its greatest lesser runs and books."""
    cuts, many = [0], len(entries)
    while cuts[-1] < many:
        start = cuts[-1]
        ends = [end for end in range(start + 1, many + 1) if end - start < many and are_gapless(entries[start:end])]
        cuts.append(max(ends))
    return cuts[1:-1]


def _kind_and_cuts(entries):
    rising = _rising_cuts(entries)
    if rising != []:
        return RISING, rising
    falling = _falling_cuts(entries)
    if falling != []:
        return FALLING, falling
    return CROSSED, _crossed_cuts(entries)


def _knot_of_entries(catalogue, entries):
    """The knot whose books have some entries, those of its stretch in the order of the row."""
    first = min(entries)
    books = tuple(catalogue[first:first + len(entries)])
    if len(entries) == 1:
        return Knot(books, first, BOOK, [])
    kind, cuts = _kind_and_cuts(entries)
    stretches = [entries[start:end] for start, end in zip([0] + cuts, cuts + [len(entries)])]
    return Knot(books, first, kind, [_knot_of_entries(catalogue, stretch) for stretch in stretches])


def whole_knot(shelf):
    """The knot of all books of a shelf, with all others within."""
    return _knot_of_entries(shelf.catalogue(), ranks(shelf))


def knots_within(knot):
    """The list of a knot and of all within it."""
    found = [knot]
    for part in knot.parts:
        found += knots_within(part)
    return found


def all_knots(shelf):
    """The list of the knots of a shelf, not only of their names."""
    check_shelf(shelf)
    return knots_within(whole_knot(shelf))


def _knot_named(shelf, name):
    """The knot of a shelf that has a name; raise InvalidShelf, InvalidKnot if there is none."""
    for knot in all_knots(shelf):
        if knot.books == name:
            return knot
    raise InvalidKnot(name)


def crossed_knot_named(shelf, name):
    """The crossed knot of a shelf that has a name; raise InvalidShelf, InvalidKnot if there is none."""
    knot = _knot_named(shelf, name)
    if knot.kind != CROSSED:
        raise InvalidKnot(name)
    return knot


def in_order_of_catalogue(parts):
    """Some knots that lie apart, in the order of the catalogue."""
    return sorted(parts, key=lambda part: part.first)


def numbers_of(knot):
    """The positions of a knot's parts by the catalogue, in the order of the row."""
    firsts = sorted([part.first for part in knot.parts])
    return [firsts.index(part.first) for part in knot.parts]


def books_of_all(parts):
    """The tuple of the books of some knots, one after the other."""
    return tuple([book for part in parts for book in part.books])


def unions_of(parts):
    """The tuples of the books of two or more neighbours of some knots in the order of the catalogue."""
    many = len(parts)
    return [books_of_all(parts[start:end]) for start in range(many) for end in range(start + 2, many + 1)]


def knots(shelf):
    """The ascending list of the knots."""
    return sorted([knot.books for knot in all_knots(shelf)])


def is_knot(shelf, value):
    """Whether any object is a knot of a shelf, by its name."""
    return value in knots(shelf)


def parts_of(shelf, knot):
    """The parts of a knot in the order of the row."""
    return [part.books for part in _knot_named(shelf, knot).parts]


def knot_around(shelf, knot):
    """The least knot that holds a knot and is another one, None for the tuple of all books."""
    name = _knot_named(shelf, knot).books
    for around in all_knots(shelf):
        if name in [part.books for part in around.parts]:
            return around.books
    return None


def part_numbers(shelf, knot):
    """The positions of the parts by the catalogue, in the order of the row."""
    return numbers_of(_knot_named(shelf, knot))


def kind_of(shelf, knot):
    """The kind of a knot: "rising", "falling", "crossed" or "book"."""
    return _knot_named(shelf, knot).kind


def sign_of(shelf, knot):
    """The sign of a knot, None for a book."""
    return _knot_named(shelf, knot).sign


def _tree_of_knot(knot):
    if knot.kind == BOOK:
        return knot.books[0]
    return knot.kind, [_tree_of_knot(part) for part in knot.parts]


def tree_of(shelf):
    """The tree of a shelf: a book, or a tuple of a kind and the list of the trees of the parts."""
    check_shelf(shelf)
    return _tree_of_knot(whole_knot(shelf))


def is_tree(shelf, value):
    """Whether any object is the tree of a shelf."""
    return value == tree_of(shelf)


def _depth_of_knot(knot):
    if knot.kind == BOOK:
        return 0
    return 1 + max([_depth_of_knot(part) for part in knot.parts])


def depth(shelf):
    """The greatest number of knots of two books or more that lie one within the other."""
    check_shelf(shelf)
    return _depth_of_knot(whole_knot(shelf))


def runs_of_knot(shelf, knot):
    """The ascending list of the runs that a knot holds and no lesser knot holds."""
    found = _knot_named(shelf, knot)
    if found.kind == CROSSED:
        return [found.books]
    return sorted(unions_of(in_order_of_catalogue(found.parts)))


def least_knot(shelf, some):
    """The least knot that holds some books."""
    check_shelf(shelf)
    if not are_ascending_of(shelf.catalogue(), some) or some == []:
        raise InvalidBooks(some)
    around = [knot for knot in knots(shelf) if all([book in knot for book in some])]
    return min(around, key=len)


def _knots_of_just_one(one, other):
    others = knots(other)
    return [knot for knot in knots(one) if knot not in others]


def knots_lost(shelf, run):
    """The ascending list of the knots that are none any more when a run is turned."""
    check_run(shelf, run)
    return _knots_of_just_one(shelf, turned_about(shelf, run))


def knots_gained(shelf, run):
    """The ascending list of the knots, when a run is turned, that were none ahead of it."""
    check_run(shelf, run)
    return _knots_of_just_one(turned_about(shelf, run), shelf)


def same_knots(one, other):
    """Whether two shelves of one catalogue have the same knots."""
    check_alike(one, other)
    return knots(one) == knots(other)


def knots_of_kind(shelf, kind):
    """The ascending list of the knots of a kind."""
    check_shelf(shelf)
    if kind not in KINDS:
        raise InvalidKind(kind)
    return sorted([knot.books for knot in all_knots(shelf) if knot.kind == kind])
