"""Lots of turnable runs counted, or the dearest one of them found, by tables: a class may have millions of shelves."""

from runturns.homes import class_heaps
from runturns.knots import CROSSED, all_knots, books_of_all


def _times(one, other, most):
    """The product of two tables from prices to numbers, without prices above the most."""
    made = {}
    for first in one:
        for second in other:
            if first + second <= most:
                made[first + second] = made.get(first + second, 0) + one[first] * other[second]
    return made


def _plus(one, other):
    """The sum of two tables from prices to numbers."""
    return {price: one.get(price, 0) + other.get(price, 0) for price in list(one) + list(other)}


def _with_run(run, table, prices, most):
    """The table of the lots of a table, the run put into each; of none if it has no price."""
    return _times({prices[run]: 1}, table, most) if run in prices else {}


def _heap_table(things, prices, most):
    """How many lots of the runs of a heap have which price."""
    many = len(things)
    # Of the things from a position on to one behind them: all lots, and those that have the run of all of them.
    whole = {(at, at + few): {0: 1} for few in range(2) for at in range(many + 1 - few)}
    with_all = {}
    for size in range(2, many + 1):
        for start in range(many + 1 - size):
            end = start + size
            # Either no run begins with the first thing, or the greatest one that does ends somewhere.
            found = whole[(start + 1, end)]
            for middle in range(start + 2, end):
                found = _plus(found, _times(with_all[(start, middle)], whole[(middle, end)], most))
            with_all[(start, end)] = _with_run(books_of_all(things[start:end]), found, prices, most)
            whole[(start, end)] = _plus(found, with_all[(start, end)])
    return whole[(0, many)]


def lots_by_price(shelf, prices, most):
    """How many lots of a shelf's class have which price up to the most, of runs that have a price alone."""
    found = {0: 1}
    for knot in all_knots(shelf):
        if knot.kind == CROSSED:
            found = _times(found, _plus({0: 1}, _with_run(knot.books, {0: 1}, prices, most)), most)
    for things in class_heaps(shelf):
        found = _times(found, _heap_table(things, prices, most), most)
    return found


def many_lots(shelf, runs):
    """How many lots of a shelf's class are made of some runs."""
    return lots_by_price(shelf, {run: 0 for run in runs}, 0).get(0, 0)


def _dearest_of_heap(things, prices):
    """The greatest price of a lot of the runs of a heap, and such a lot."""
    many = len(things)
    best = {(at, at + 1): (0, []) for at in range(many)}
    for size in range(2, many + 1):
        for start in range(many + 1 - size):
            end = start + size
            halves = [(best[(start, middle)], best[(middle, end)]) for middle in range(start + 1, end)]
            joined = [(ahead[0] + behind[0], ahead[1] + behind[1]) for ahead, behind in halves]
            price, lot = max(joined, key=lambda told: told[0])
            run = books_of_all(things[start:end])
            # A run of all the things overlaps none within.
            gain = prices.get(run, 0)
            best[(start, end)] = (price + gain, lot + [run]) if gain > 0 else (price, lot)
    return best[(0, many)]


def dearest_lot(shelf, prices):
    """Any lot of a shelf's class with the greatest price, of runs that have a price alone."""
    found = [knot.books for knot in all_knots(shelf) if knot.kind == CROSSED and prices.get(knot.books, 0) > 0]
    for things in class_heaps(shelf):
        found += _dearest_of_heap(things, prices)[1]
    return sorted(found)
