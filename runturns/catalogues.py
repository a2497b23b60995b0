"""Runs under several catalogues at once: let lots, common runs and knots, and what turns of common runs join."""

from runturns.errors import InvalidCatalogue, InvalidCatalogues, InvalidLot
from runturns.homes import awry_within
from runturns.knots import BOOK, CROSSED, Knot, knots_within
from runturns.least import least_lots
from runturns.runs import are_gapless, each_alone, is_run, neighbours_of, turned_about
from runturns.shelves import Shelf, are_ascending, check_alike, check_shelf, is_catalogue, sorted_shelf

STRAIGHT = "straight"


def _are_beside(books, value):
    """Whether any object is a list, perhaps empty, of catalogues of just some books."""
    if not isinstance(value, list):
        return False
    return all([is_catalogue(one) and sorted(one) == sorted(books) for one in value])


def _check_beside(books, beside):
    if not _are_beside(books, beside):
        raise InvalidCatalogues(beside)


def _check_one(shelf, beside):
    check_shelf(shelf)
    _check_beside(shelf.catalogue(), beside)


def _check_two(shelf, other, beside):
    check_alike(shelf, other)
    _check_beside(shelf.catalogue(), beside)


def _are_neighbours(catalogue, lot):
    return are_gapless([catalogue.index(book) for book in lot])


def _are_let(lot, catalogues):
    """Whether some books are neighbours in each of some catalogues."""
    return all([_are_neighbours(catalogue, lot) for catalogue in catalogues])


def let_lots(catalogue, beside):
    """The ascending list of the let lots, each in the order of the catalogue."""
    if not is_catalogue(catalogue):
        raise InvalidCatalogue(catalogue)
    _check_beside(catalogue, beside)
    return [lot for lot in neighbours_of(catalogue) if _are_let(lot, beside)]


def _common_stretches(shelf, beside):
    """The stretches of the row that are common runs, as tuples of the first place and the one behind the last."""
    row, catalogues = shelf.row(), [shelf.catalogue()] + beside
    many = len(row)
    stretches = [(start, end) for start in range(many) for end in range(start + 2, many + 1)]
    return [(start, end) for start, end in stretches if _are_let(row[start:end], catalogues)]


def _common_runs(shelf, beside):
    row, catalogue = shelf.row(), shelf.catalogue()
    lots = [row[start:end] for start, end in _common_stretches(shelf, beside)]
    return sorted([tuple([book for book in catalogue if book in lot]) for lot in lots])


def common_runs(shelf, beside):
    """The ascending list of the runs of a shelf that are let."""
    _check_one(shelf, beside)
    return _common_runs(shelf, beside)


def is_common_run(shelf, beside, value):
    """Whether any object is a run of a shelf that is let."""
    return value in common_runs(shelf, beside)


def _stretches_overlap(one, other):
    ahead, behind = min(one, other), max(one, other)
    return ahead[0] < behind[0] < ahead[1] < behind[1]


def _parts_of_stretch(start, end, free):
    """The greatest of some stretches that do not overlap, and single places, that lie within one and are not it."""
    parts, at = [], start
    while at < end:
        ends = [last for first, last in free if first == at and last <= end and (first, last) != (start, end)]
        parts.append((at, max(ends, default=at + 1)))
        at = parts[-1][1]
    return parts


def _kind_of_parts(parts, stretches):
    """The kind of a common knot with some parts, all told as stretches."""
    unions = [(one[0], other[1]) for one, other in zip(parts, parts[1:])]
    return STRAIGHT if len(parts) == 2 or any([union in stretches for union in unions]) else CROSSED


def _knot_of_stretch(shelf, start, end, stretches, free):
    """The common knot that is a stretch of the row, with all others within."""
    lot, catalogue = shelf.row()[start:end], shelf.catalogue()
    books = tuple([book for book in catalogue if book in lot])
    first = catalogue.index(books[0])
    if len(lot) == 1:
        return Knot(books, first, BOOK, [])
    parts = _parts_of_stretch(start, end, free)
    inner = [_knot_of_stretch(shelf, ahead, behind, stretches, free) for ahead, behind in parts]
    return Knot(books, first, _kind_of_parts(parts, stretches), inner)


def _whole_common_knot(shelf, beside):
    """The common knot of all books of a shelf, with all others within."""
    stretches = _common_stretches(shelf, beside)
    free = [one for one in stretches if not any([_stretches_overlap(one, other) for other in stretches])]
    return _knot_of_stretch(shelf, 0, len(shelf.row()), stretches, free)


def common_knots(shelf, beside):
    """The dictionary from the common knots of two books or more, ascending, to tuples of their kind and sign."""
    _check_one(shelf, beside)
    told = {knot.books: (knot.kind, knot.sign) for knot in knots_within(_whole_common_knot(shelf, beside))}
    return {books: told[books] for books in sorted(list(told)) if len(books) > 1}


def _common_awry(shelf, beside):
    return sorted(awry_within(_whole_common_knot(shelf, beside), "+"))


def common_awry(shelf, beside):
    """The ascending list of the common knots of two books or more that stand awry."""
    _check_one(shelf, beside)
    return _common_awry(shelf, beside)


def _all_turned(shelf, runs):
    """The shelf behind turns of runs that surely are runs, each when its turn comes."""
    reached = shelf
    for run in runs:
        reached = turned_about(reached, run)
    return reached


def _common_home(shelf, beside):
    # What stands awry is a knot, and stays one while others are turned.
    return _all_turned(shelf, _common_awry(shelf, beside))


def common_home(shelf, beside):
    """The only shelf to which turns of common runs lead and in which no common knot stands awry."""
    _check_one(shelf, beside)
    return _common_home(shelf, beside)


def common_shelf(shelf, beside, lot):
    """The only shelf to which turns of common runs lead and in which just a lot stands awry, None if there is none."""
    _check_one(shelf, beside)
    let = let_lots(shelf.catalogue(), beside)
    if not isinstance(lot, list) or not all([run in let for run in lot]) or not are_ascending(lot):
        raise InvalidLot(lot)
    reached = _common_home(shelf, beside)
    for run in lot:
        # Each turn puts just its own run into what stands awry, if it can be turned at all.
        if run not in _common_runs(reached, beside):
            return None
        reached = turned_about(reached, run)
    return reached


def _are_common_joined(shelf, other, beside):
    return _common_home(shelf, beside) == _common_home(other, beside)


def _awry_alone(shelf, other, beside):
    return each_alone(_common_awry(shelf, beside), _common_awry(other, beside))


def common_joined(shelf, other, beside):
    """Whether turns of common runs lead from one shelf to the other."""
    _check_two(shelf, other, beside)
    return _are_common_joined(shelf, other, beside)


def common_distance(shelf, other, beside):
    """The least number of turns of common runs that lead from one shelf to the other, None if none do."""
    way = common_way(shelf, other, beside)
    return None if way is None else len(way)


def common_way(shelf, other, beside):
    """Any list of as few turns of common runs as can be that lead from one shelf to the other, None if none do."""
    _check_two(shelf, other, beside)
    if not _are_common_joined(shelf, other, beside):
        return None
    early, late = _awry_alone(shelf, other, beside)
    return early + late


def is_common_way(shelf, other, beside, value):
    """Whether any object is a list of as few turns of common runs as can be that lead from one shelf to the other."""
    fewest = common_distance(shelf, other, beside)
    if fewest is None or not isinstance(value, list) or len(value) != fewest:
        return False
    reached = shelf
    for run in value:
        if run not in _common_runs(reached, beside):
            return False
        reached = turned_about(reached, run)
    return reached == other


def first_parting(shelf, other, beside):
    """With how many of the catalogues beside two shelves are not joined any more, None if they are with all."""
    _check_two(shelf, other, beside)
    for many in range(len(beside) + 1):
        if not _are_common_joined(shelf, other, beside[:many]):
            return many
    return None


def _chosen(beside, positions):
    return [beside[at] for at in positions]


def parting_lots(shelf, other, beside):
    """The ascending list of the least lists of positions of catalogues beside that part two shelves."""
    _check_two(shelf, other, beside)
    many = len(beside)
    return least_lots(list(range(many)), many, lambda lot: not _are_common_joined(shelf, other, _chosen(beside, lot)))


def needless(catalogue, beside):
    """The ascending list of the positions of the catalogues beside without which the let lots are the same."""
    lots = let_lots(catalogue, beside)
    return [at for at in range(len(beside)) if let_lots(catalogue, beside[:at] + beside[at + 1:]) == lots]


def least_beside(catalogue, beside):
    """The ascending list of the least lists of positions of catalogues with which alone the let lots are the same."""
    lots, many = let_lots(catalogue, beside), len(beside)
    return least_lots(list(range(many)), many, lambda lot: let_lots(catalogue, _chosen(beside, lot)) == lots)


def _let_under_just_one(catalogue, beside, others):
    """The lots that are let under just one of two lists of catalogues."""
    early, late = each_alone(let_lots(catalogue, beside), let_lots(catalogue, others))
    return early + late


def alike_for_all(catalogue, beside, others):
    """Whether all shelves of a catalogue have the same common runs under two lists of catalogues."""
    return _let_under_just_one(catalogue, beside, others) == []


def parting_run(catalogue, beside, others):
    """Any tuple of a shelf and a run of it that is let under just one of two lists, None if there is none."""
    found = _let_under_just_one(catalogue, beside, others)
    # All neighbours of the catalogue are neighbours of its sorted shelf.
    return (sorted_shelf(catalogue), found[0]) if found != [] else None


def is_parting_run(catalogue, beside, others, value):
    """Whether any object is a tuple of a shelf and a run of it that is let under just one of two lists."""
    found = _let_under_just_one(catalogue, beside, others)
    if not isinstance(value, tuple) or len(value) != 2 or not isinstance(value[0], Shelf):
        return False
    return value[0].catalogue() == catalogue and value[1] in found and is_run(value[0], value[1])
