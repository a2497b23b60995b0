"""Turns that cost something: least prices, places to meet, and shelves by their price."""

from runturns.counts import is_count
from runturns.errors import InvalidCatalogue, InvalidCount, InvalidPrices, InvalidShelves
from runturns.homes import are_of_one_class, awry_runs, check_one_class
from runturns.lots import shelf_awry_by, turnable_runs
from runturns.runs import check_turns, neighbours_of
from runturns.shelves import Shelf, check_alike, check_one_catalogue, check_shelf, is_catalogue
from runturns.tables import dearest_lot, lots_by_price
from runturns.ways import differing_runs, is_way, shortest_way


def _are_prices(catalogue, value):
    """Whether any object is prices for a catalogue."""
    if not isinstance(value, dict):
        return False
    lots = neighbours_of(catalogue)
    return all([lot in lots and is_count(value[lot]) for lot in value])


def _check_prices(shelf, prices):
    if not _are_prices(shelf.catalogue(), prices):
        raise InvalidPrices(prices)


def _check_two(one, other, prices):
    check_alike(one, other)
    _check_prices(one, prices)


def _price(run, prices):
    return prices.get(run, 1)


def _sum_of_prices(runs, prices):
    return sum([_price(run, prices) for run in runs])


def price_of(shelf, turns, prices):
    """The price of turns: the sum of the prices of their runs, each as often as it stands there."""
    check_turns(shelf, turns)
    _check_prices(shelf, prices)
    return _sum_of_prices(turns, prices)


def prices_by_size(catalogue, rates):
    """The prices, keys ascending, that are told by the numbers of books, the first for two."""
    if not is_catalogue(catalogue):
        raise InvalidCatalogue(catalogue)
    if not isinstance(rates, list) or rates == [] or not all([is_count(rate) for rate in rates]):
        raise InvalidPrices(rates)
    last = len(rates) - 1
    return {lot: rates[min(len(lot) - 2, last)] for lot in neighbours_of(catalogue)}


def _least(one, other, prices):
    """The least price between two joined shelves: all runs that differ have to be turned."""
    return _sum_of_prices(differing_runs(one, other), prices)


def least_price(one, other, prices):
    """The least price of turns that lead from one shelf to the other, None if the two are not joined."""
    _check_two(one, other, prices)
    return _least(one, other, prices) if are_of_one_class(one, other) else None


def cheapest_turns(one, other, prices):
    """Any turns of the least price with as few turns as can be, None if there are none."""
    _check_two(one, other, prices)
    return shortest_way(one, other)


def are_cheapest(one, other, prices, value):
    """Whether any object is turns that lead from one shelf to the other at the least price."""
    _check_two(one, other, prices)
    return is_way(one, other, value) and _sum_of_prices(value, prices) == _least(one, other, prices)


def _check_meeting(shelves, prices):
    """Raise InvalidShelves, Unlike, InvalidPrices, Apart unless joined shelves and prices are handed."""
    if not isinstance(shelves, list) or shelves == [] or not all([isinstance(shelf, Shelf) for shelf in shelves]):
        raise InvalidShelves(shelves)
    check_one_catalogue(shelves)
    _check_prices(shelves[0], prices)
    check_one_class(shelves)


def _price_of_meeting(shelves, prices, place):
    return sum([_least(shelf, place, prices) for shelf in shelves])


def meeting_shelf(shelves, prices):
    """Any shelf with the least sum of the least prices from all of some joined shelves to it."""
    _check_meeting(shelves, prices)
    awry = [run for shelf in shelves for run in awry_runs(shelf)]
    named = [run for at, run in enumerate(awry) if run not in awry[:at]]
    return shelf_awry_by(shelves[0], [run for run in named if awry.count(run) * 2 > len(shelves)])


def meeting_price(shelves, prices):
    """The least sum of the least prices from all of some joined shelves to one shelf."""
    return _price_of_meeting(shelves, prices, meeting_shelf(shelves, prices))


def is_meeting_shelf(shelves, prices, value):
    """Whether any object is a shelf with the least sum of the least prices from all of some joined shelves."""
    least = meeting_price(shelves, prices)
    if not isinstance(value, Shelf) or not are_of_one_class(shelves[0], value):
        return False
    return _price_of_meeting(shelves, prices, value) == least


def many_at_price(shelf, prices, most):
    """How many shelves joined with a shelf have the least price 0, 1 and so on from the home of the class."""
    check_shelf(shelf)
    _check_prices(shelf, prices)
    if not is_count(most):
        raise InvalidCount(most)
    table = lots_by_price(shelf, {run: _price(run, prices) for run in turnable_runs(shelf)}, most)
    return [table.get(price, 0) for price in range(most + 1)]


def farthest_at_price(shelf, prices):
    """Any shelf joined with a shelf at the greatest least price."""
    check_shelf(shelf)
    _check_prices(shelf, prices)
    awry = awry_runs(shelf)
    # A run that stands awry in both shelves costs nothing, so the farthest one has none of the shelf's own.
    gains = {run: _price(run, prices) for run in turnable_runs(shelf) if run not in awry}
    return shelf_awry_by(shelf, dearest_lot(shelf, gains))


def farthest_price(shelf, prices):
    """The greatest least price from a shelf to any shelf joined with it."""
    return _least(shelf, farthest_at_price(shelf, prices), prices)


def is_farthest_at_price(shelf, prices, value):
    """Whether any object is a shelf joined with a shelf at the greatest least price."""
    farthest = farthest_price(shelf, prices)
    if not isinstance(value, Shelf) or not are_of_one_class(shelf, value):
        return False
    return _least(shelf, value, prices) == farthest
