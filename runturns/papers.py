"""Texts of shelves, turns, prices and changes, and what they are read as."""

from runturns.counts import is_count
from runturns.errors import InvalidChange, InvalidPrices, InvalidShelves, InvalidText, InvalidTurns
from runturns.shelves import Shelf, check_shelf, is_catalogue, is_change, is_lot_of_books, is_row_of

FIGURES = "0123456789"


def number_in(piece):
    """The number that a piece of a text tells in figures, without noughts ahead; None if it tells none."""
    if piece == "" or not all([sign in FIGURES for sign in piece]) or (piece[0] == "0" and piece != "0"):
        return None
    return int(piece)


def text_lines(text):
    """The lines of a text, of which "" has none; raise InvalidText with any object that is no string."""
    if not isinstance(text, str):
        raise InvalidText(text)
    return [] if text == "" else text.split("\n")


def shelf_lines(shelf):
    """The two lines of a shelf: the books of the catalogue, and those of the row."""
    return [" ".join(shelf.catalogue()), " ".join(shelf.row())]


def shelf_in(lines):
    """The shelf that some lines tell, None if they tell none."""
    if len(lines) != 2:
        return None
    catalogue, row = lines[0].split(" "), lines[1].split(" ")
    return Shelf(catalogue, row) if is_catalogue(catalogue) and is_row_of(catalogue, row) else None


def shelf_text(shelf):
    """The text of a shelf."""
    check_shelf(shelf)
    return "\n".join(shelf_lines(shelf))


def read_shelf(text):
    """The shelf that has a text."""
    shelf = shelf_in(text_lines(text))
    if shelf is None:
        raise InvalidText(text)
    return shelf


def turns_text(turns):
    """The text of a list of runs: a line for each."""
    if not isinstance(turns, list) or not all([is_lot_of_books(run) for run in turns]):
        raise InvalidTurns(turns)
    return "\n".join([" ".join(run) for run in turns])


def read_turns(text):
    """The list of runs that has a text."""
    turns = [tuple(line.split(" ")) for line in text_lines(text)]
    if not all([is_lot_of_books(run) for run in turns]):
        raise InvalidText(text)
    return turns


def prices_text(prices):
    """The text of a dictionary from runs to counts: a line for each, ascending."""
    if not isinstance(prices, dict) or not all([is_lot_of_books(run) and is_count(prices[run]) for run in prices]):
        raise InvalidPrices(prices)
    return "\n".join([" ".join(list(run) + ["=", str(prices[run])]) for run in sorted(list(prices))])


def _price_in(line):
    """The tuple of a run and its price that a line tells; both are None if it tells none."""
    pieces = line.split(" ")
    run, price = tuple(pieces[:-2]), number_in(pieces[-1])
    if price is None or pieces[-2:-1] != ["="] or not is_lot_of_books(run):
        return None, None
    return run, price


def read_prices(text):
    """The dictionary from runs, ascending, to counts that has a text."""
    prices = {}
    for line in text_lines(text):
        run, price = _price_in(line)
        if run is None:
            raise InvalidText(text)
        prices[run] = price
    # A run that stands there twice, or behind a greater one, is not written so.
    if prices_text(prices) != text:
        raise InvalidText(text)
    return prices


def change_text(change):
    """The text of a change: one line."""
    if not is_change(change):
        raise InvalidChange(change)
    return " ".join([str(piece) for piece in change])


def read_change(text):
    """The change that has a text."""
    pieces = text.split(" ") if isinstance(text, str) else []
    change = tuple(pieces[:2] + [number_in(piece) for piece in pieces[2:]])
    if not is_change(change):
        raise InvalidText(text)
    return change


def shelves_text(shelves):
    """The texts of a list of shelves, one behind the other, an empty line between two."""
    if not isinstance(shelves, list) or not all([isinstance(shelf, Shelf) for shelf in shelves]):
        raise InvalidShelves(shelves)
    return "\n\n".join([shelf_text(shelf) for shelf in shelves])


def read_shelves(text):
    """The list of shelves that has a text."""
    if text_lines(text) == []:
        return []
    shelves = [shelf_in(part.split("\n")) for part in text.split("\n\n")]
    if None in shelves:
        raise InvalidText(text)
    return shelves
