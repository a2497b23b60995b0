"""Shelves between others, the one in the middle of three, plans of days, and the nearest with or without a run."""

from runturns.errors import InvalidRun
from runturns.homes import are_joined, are_of_one_class, awry_runs, check_joined, check_one_class, class_heaps
from runturns.knots import unions_of
from runturns.least import lies_in
from runturns.lots import shelf_awry_by, turnable_runs
from runturns.numbers import class_size, sorted_count
from runturns.runs import all_runs, books_overlap, overlaps_one_of, turned_about
from runturns.shelves import Shelf, are_ascending, check_one_catalogue, check_shelf, ranks
from runturns.ways import awry_alone, differing_runs


def _awry_in_both(one, other):
    others = awry_runs(other)
    return [run for run in awry_runs(one) if run in others]


def is_between(one, other, value):
    """Whether any object is a shelf through which some shortest way from one shelf to the other leads."""
    check_joined(one, other)
    if not isinstance(value, Shelf) or not are_of_one_class(one, value):
        return False
    awry = awry_runs(value)
    return lies_in(_awry_in_both(one, other), awry) and lies_in(awry, awry_runs(one) + awry_runs(other))


def _many_lots_of(runs, others):
    """How many lots two lists of runs make, in each of which no two overlap."""
    if others == []:
        return 1 << len(runs)
    first, rest = others[0], others[1:]
    beside = [run for run in runs if not books_overlap(run, first)]
    return _many_lots_of(runs, rest) + _many_lots_of(beside, rest)


def many_between(one, other):
    """How many shelves are between two joined ones, these two among them."""
    check_joined(one, other)
    early, late = awry_alone(one, other)
    return _many_lots_of(early, late) if len(late) < len(early) else _many_lots_of(late, early)


def shelves_between(one, other):
    """The list of the shelves between two joined ones, ascending by their ranks."""
    check_joined(one, other)
    early, late = awry_alone(one, other)
    lots = [_awry_in_both(one, other)]
    for run in early + late:
        lots = lots + [lot + [run] for lot in lots if not overlaps_one_of(run, lot)]
    return sorted([shelf_awry_by(one, lot) for lot in lots], key=ranks)


def middle(one, other, third):
    """The shelf that is between each two of three joined ones."""
    shelves = [one, other, third]
    for shelf in shelves:
        check_shelf(shelf)
    check_one_catalogue(shelves)
    check_one_class(shelves)
    # What stands awry in two of them does in the first of these and in some shelf behind it.
    early = [run for run in awry_runs(one) if run in awry_runs(other) + awry_runs(third)]
    late = [run for run in _awry_in_both(other, third) if run not in early]
    return shelf_awry_by(one, early + late)


def _turns_by_book(one, other):
    """A dictionary from the books to the number of differing runs of two joined shelves that hold them."""
    differing = differing_runs(one, other)
    return {book: len([run for run in differing if book in run]) for book in one.catalogue()}


def fewest_days(one, other):
    """The least number of days of a plan from one shelf to the other, None if the two are not joined."""
    return max(list(_turns_by_book(one, other).values())) if are_joined(one, other) else None


def busiest_books(one, other):
    """The ascending list of the books that are in as many differing runs as any book."""
    check_joined(one, other)
    turns = _turns_by_book(one, other)
    most = max(list(turns.values()))
    return sorted([book for book in turns if turns[book] == most])


def day_plan(one, other):
    """Any plan of as few days as can be from one shelf to the other, None if there is none."""
    if not are_joined(one, other):
        return None
    early, late = awry_alone(one, other)
    plan = []
    while early + late != []:
        free = early + [run for run in late if not overlaps_one_of(run, early)]
        # Some free run holds each of the busiest books: if the least run that does were not free, the one in its way
        # would share a still busier book with it. So turning the greatest free runs makes all of these less busy.
        day = [run for run in free if not any([lies_in(run, around) and run != around for around in free])]
        plan.append(sorted(day))
        early = [run for run in early if run not in day]
        late = [run for run in late if run not in day]
    return plan


def _is_day(shelf, value):
    """Whether any object is an ascending list, not empty, of runs of a shelf of which no two share a book."""
    runs = all_runs(shelf)
    if not isinstance(value, list) or value == [] or not all([run in runs for run in value]):
        return False
    books = [book for run in value for book in run]
    return are_ascending(value) and len(set(books)) == len(books)


def _shelf_behind_days(shelf, plan):
    """The shelf to which the days of any list lead, None if it is no plan of days."""
    reached = shelf
    for day in plan:
        if not _is_day(reached, day):
            return None
        for run in day:
            reached = turned_about(reached, run)
    return reached


def is_day_plan(one, other, value):
    """Whether any object is a plan of as few days as can be from one shelf to the other."""
    fewest = fewest_days(one, other)
    if fewest is None or not isinstance(value, list) or len(value) != fewest:
        return False
    reached = _shelf_behind_days(one, value)
    return reached is not None and reached == other


def _check_books_in_order(shelf, run):
    """Raise InvalidShelf, InvalidRun unless a tuple of two or more books of a shelf in the order of the catalogue."""
    check_shelf(shelf)
    if not isinstance(run, tuple) or len(run) < 2 or run != tuple([book for book in shelf.catalogue() if book in run]):
        raise InvalidRun(run)


def nearest_with(shelf, run):
    """The shelf in which a run is awry that the fewest turns lead to, None if it is awry in no joined one."""
    _check_books_in_order(shelf, run)
    if run not in turnable_runs(shelf):
        return None
    kept = [awry for awry in awry_runs(shelf) if awry != run and not books_overlap(awry, run)]
    return shelf_awry_by(shelf, kept + [run])


def nearest_without(shelf, run):
    """The shelf in which a run is not awry that the fewest turns lead to."""
    _check_books_in_order(shelf, run)
    return turned_about(shelf, run) if run in awry_runs(shelf) else shelf


def _many_with(shelf, run):
    """In how many shelves of the class a turnable run is awry."""
    for things in class_heaps(shelf):
        if run in unions_of(things):
            many, within = len(things), len([thing for thing in things if lies_in(thing.books, run)])
            # The lots of the things within that have all of these, and those of the heap in which these are one thing.
            lots = sorted_count(within) // 2 * sorted_count(many - within + 1)
            return class_size(shelf) // sorted_count(many) * lots
    # A crossed knot is awry in the half of all.
    return class_size(shelf) // 2


def parting_shelves(shelf, run):
    """In how many shelves of the class a run is awry, and in how many it is not."""
    _check_books_in_order(shelf, run)
    many = _many_with(shelf, run) if run in turnable_runs(shelf) else 0
    return many, class_size(shelf) - many


def sum_of_ways(shelf):
    """The sum of the fewest turns from a shelf to all shelves of its class."""
    awry, found = awry_runs(shelf), 0
    for run in turnable_runs(shelf):
        many = _many_with(shelf, run)
        found += class_size(shelf) - many if run in awry else many
    return found
