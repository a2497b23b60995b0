"""How many shelves a class has and how far apart they are, and how many classes there are: counted by tables."""

from math import factorial

from runturns.counts import is_count, is_count_below
from runturns.errors import InvalidCount
from runturns.homes import are_of_one_class, class_heaps, core_of
from runturns.knots import CROSSED, all_knots, books_of_all
from runturns.lots import shelf_awry_by
from runturns.shelves import Shelf
from runturns.ways import fewest_turns

# For shelves of 1 book and so on: so many out are enough to sort the rest of any, and some shelf needs so many.
LEAST_OUT = (0, 0, 0, 1, 1, 2, 2)


def _check_size(size):
    if not is_count(size) or size < 1:
        raise InvalidCount(size)


def _sum_of(one, other):
    """The sum of two lists of numbers, entry by entry, as long as the longer one."""
    both = [first + second for first, second in zip(one, other)]
    return both + one[len(both):] + other[len(both):]


def _product_of(one, other):
    """The list with the products of all entries of two lists, those of like sums of places added up."""
    made = [0] * (len(one) + len(other) - 1)
    for at, first in enumerate(one):
        for step, second in enumerate(other):
            made[at + step] += first * second
    return made


def sorted_by_turns(size):
    """How many shelves of so many books can be sorted by just 0 turns, 1 and so on, and by no fewer."""
    _check_size(size)
    # For 0 things in a row and so on: the lots of their runs by the number of runs; all, and those with the whole.
    lots, with_whole = [[], [1]], [[], []]
    for many in range(2, size + 1):
        # Either no run begins with the first thing, or the greatest one that does has some of the others.
        found = lots[many - 1]
        for ahead in range(2, many):
            found = _sum_of(found, _product_of(with_whole[ahead], lots[many - ahead]))
        with_whole.append([0] + found)
        lots.append(_sum_of(found, [0] + found))
    return lots[size]


def sorted_count(size):
    """How many shelves of so many books can be sorted."""
    return sum(sorted_by_turns(size))


def _many_crossed(shelf):
    return len([knot for knot in all_knots(shelf) if knot.kind == CROSSED])


def _heap_sizes(shelf):
    return [len(things) for things in class_heaps(shelf)]


def turns_from_home(shelf):
    """How many shelves of the class have just 0 runs awry, 1 and so on."""
    found = [1]
    for _ in range(_many_crossed(shelf)):
        found = _product_of(found, [1, 1])
    for size in _heap_sizes(shelf):
        found = _product_of(found, sorted_by_turns(size))
    return found


def class_size(shelf):
    """How many shelves the class of a shelf has."""
    return sum(turns_from_home(shelf))


def _sorted_orders(size):
    """The orders of 0, 1 and so on, so many, that can be sorted."""
    orders, falling = [[], [[0]]], [[], [[0]]]
    for many in range(2, size + 1):
        # A rising one falls into a first part, as small as can be and so not rising, and a rest of any kind.
        cut = [(first, rest) for ahead in range(1, many) for first in falling[ahead] for rest in orders[many - ahead]]
        rising = [first + [len(first) + number for number in rest] for first, rest in cut]
        falling.append([order[::-1] for order in rising])
        orders.append(rising + falling[many])
    return orders[size]


def _rows_in(lots, order):
    """All rows with one row of each lot, the lots in an order."""
    rows = [[]]
    for number in order:
        rows = [row + inner for row in rows for inner in lots[number]]
    return rows


def _rows_with(core):
    """The rows of all shelves that have a core."""
    if isinstance(core, str):
        return [[core]]
    lots = [_rows_with(inner) for inner in core[-1]]
    orders = [core[1], core[1][::-1]] if core[0] == CROSSED else _sorted_orders(len(lots))
    return [row for order in orders for row in _rows_in(lots, order)]


def _rows_of_class(shelf):
    core = core_of(shelf)
    return sorted(_rows_with(core))


def class_shelves(shelf):
    """The list of the shelves of the class, ascending by their rows."""
    return [Shelf(shelf.catalogue(), row) for row in _rows_of_class(shelf)]


def class_shelf(shelf, number):
    """The shelf at a position in the list of those of the class."""
    if not is_count_below(number, class_size(shelf)):
        raise InvalidCount(number)
    return Shelf(shelf.catalogue(), _rows_of_class(shelf)[number])


def class_place(shelf):
    """The position of a shelf in the list of those of its class."""
    return _rows_of_class(shelf).index(shelf.row())


def most_turns(shelf):
    """The greatest number that fewest turns between two shelves of the class can be."""
    return _many_crossed(shelf) + sum([2 * size - 3 for size in _heap_sizes(shelf)])


def farthest_pair(shelf):
    """Any tuple of two shelves of the class that are as far from one another as any."""
    one = [knot.books for knot in all_knots(shelf) if knot.kind == CROSSED]
    other = []
    for things in class_heaps(shelf):
        # Both have as many runs as can be, but for the whole heap, which each lot of so many has.
        one += [books_of_all(things[:end]) for end in range(2, len(things) + 1)]
        other += [books_of_all(things[start:]) for start in range(1, len(things) - 1)]
    return shelf_awry_by(shelf, one), shelf_awry_by(shelf, other)


def is_farthest_pair(shelf, value):
    """Whether any object is a tuple of two shelves of the class that are as far from one another as any."""
    most = most_turns(shelf)
    if not isinstance(value, tuple) or len(value) != 2:
        return False
    if not all([isinstance(one, Shelf) and are_of_one_class(shelf, one) for one in value]):
        return False
    return fewest_turns(value[0], value[1]) == most


def _powers_of(numbers):
    """The powers of a list of numbers, from the one of 0 on, each as long as the list, as many as it is long."""
    powers = [[1] + [0] * (len(numbers) - 1)]
    for _ in range(len(numbers) - 1):
        powers.append(_product_of(powers[-1], numbers)[:len(numbers)])
    return powers


def _crossed_counts(size):
    """For 0 books and so on: how many rows are one crossed knot of single books."""
    powers = _powers_of([0] + [factorial(many) for many in range(1, size + 1)])
    whole, found = [0, 1], [0, 0]
    for many in range(2, size + 1):
        # A rising row falls into a first part that is not rising and a rest; so many rows are falling.
        rising = sum([whole[ahead] * factorial(many - ahead) for ahead in range(1, many)])
        whole.append(factorial(many) - rising)
        # Each other row is a crossed one of fewer parts with a row in the place of each part, or of single books.
        spread = sum([found[parts] * powers[parts][many] for parts in range(4, many)])
        found.append(factorial(many) - 2 * rising - spread)
    return found


def crossed_count(size):
    """How many shelves of so many books are one crossed knot whose parts are single books."""
    _check_size(size)
    return _crossed_counts(size)[size]


def class_count(size):
    """How many classes the shelves of so many books are in."""
    _check_size(size)
    crossed = _crossed_counts(size)
    # For 0 books and so on: the numbers of all cores, and of those that are no heaps.
    cores, bare = [0, 1], [0, 1]
    for many in range(2, size + 1):
        powers = _powers_of(cores + [0])
        # A row and the contrary one are the numbers of one crossed knot.
        bare.append(sum([crossed[parts] // 2 * powers[parts][many] for parts in range(4, many + 1)]))
        # Behind the first thing of a heap stands one more, or those of another heap: the things of any one core.
        heaps = sum([bare[ahead] * cores[many - ahead] for ahead in range(1, many)])
        cores.append(bare[many] + heaps)
    return cores[size]


def _joined_tables(one, other):
    """The sum of two dictionaries from sizes of classes to how many there are."""
    return {size: one.get(size, 0) + other.get(size, 0) for size in list(one) + list(other)}


def _spread_table(one, other):
    """A dictionary from the products of the sizes in two dictionaries to how many there are."""
    found = {}
    for first in one:
        for second in other:
            found[first * second] = found.get(first * second, 0) + one[first] * other[second]
    return found


def _tables_in_row(tables, many, books):
    """How many rows of so many cores with so many books there are, by the products of their sizes."""
    if many == 0:
        return {1: 1} if books == 0 else {}
    found = {}
    for first in range(1, books - many + 2):
        rest = _tables_in_row(tables, many - 1, books - first)
        found = _joined_tables(found, _spread_table(tables[first], rest))
    return found


def classes_by_size(size):
    """The dictionary from the sizes of classes, ascending, to how many classes of so many books have them."""
    _check_size(size)
    crossed = _crossed_counts(size)
    cores, bare = [{}, {1: 1}], [{}, {1: 1}]
    for many in range(2, size + 1):
        found = {}
        for parts in range(4, many + 1):
            rows = _tables_in_row(cores, parts, many)
            found = _joined_tables(found, _spread_table({2: crossed[parts] // 2}, rows))
        bare.append(found)
        for things in range(2, many + 1):
            rows = _tables_in_row(bare, things, many)
            found = _joined_tables(found, _spread_table({sorted_count(things): 1}, rows))
        cores.append(found)
    return {shelves: cores[size][shelves] for shelves in sorted(list(cores[size]))}


def unsorted_least(size):
    """How many books have to be taken out, at most, of a shelf of so many so that the rest can be sorted."""
    if not is_count(size) or size < 1 or size > len(LEAST_OUT):
        raise InvalidCount(size)
    return LEAST_OUT[size - 1]
