"""Slow ways to what the document says of knots, homes and classes: from its words, by trying all there is."""

import functools
import itertools
import random

from runturns.shelves import Shelf
from tests.helpers import is_one_of, runs_by_entries, shelves_of

LETTERS = "abcdefghijklmnopqrstuvwxyz"
# A rising row, a falling one, one crossed knot, and crossed knots within straight ones and the other way about.
TWELVE_BOOKS = list("kbhdalcgifje")
NUMBERS_OF_TWELVE = ([0, 1, 2, 3, 4, 5, 6, 7, 8, 9, 10, 11], [11, 10, 9, 8, 7, 6, 5, 4, 3, 2, 1, 0],
                     [1, 3, 5, 7, 9, 11, 0, 2, 4, 6, 8, 10], [1, 3, 0, 2, 8, 11, 9, 10, 4, 5, 7, 6],
                     [3, 4, 5, 9, 11, 10, 0, 2, 1, 6, 7, 8], [5, 7, 4, 6, 9, 11, 8, 10, 1, 3, 0, 2],
                     [2, 0, 3, 1, 4, 5, 6, 8, 7, 11, 10, 9])


def overlap_as_sets(one, other):
    one, other = set(one), set(other)
    return bool(one & other and one - other and other - one)


def keyed(function):
    """The same function of a shelf, its results kept by catalogue and row; callers do not change them."""
    known = {}

    @functools.wraps(function)
    def told(shelf):
        key = (tuple(shelf.catalogue()), tuple(shelf.row()))
        if key not in known:
            known[key] = function(shelf)
        return known[key]
    return told


@keyed
def slow_runs(shelf):
    return runs_by_entries(shelf)


@keyed
def slow_knots(shelf):
    """[24]: each book, the whole, and each run that no run overlaps."""
    runs = slow_runs(shelf)
    free = [run for run in runs if not any(overlap_as_sets(run, other) for other in runs)]
    return sorted(set(free + [tuple(shelf.catalogue())] + [(book,) for book in shelf.catalogue()]))


def slow_parts(shelf, knot):
    """[25]: the greatest knots within, other than it is, in the order of the row."""
    within = [other for other in slow_knots(shelf) if set(other) < set(knot)]
    greatest = [one for one in within if not any(set(one) < set(other) for other in within)]
    return sorted(greatest, key=lambda part: min(shelf.row().index(book) for book in part))


def slow_around(shelf, knot):
    holding = [other for other in slow_knots(shelf) if set(knot) < set(other)]
    return min(holding, key=len, default=None)


def slow_numbers(shelf, knot):
    parts = slow_parts(shelf, knot)
    ahead = sorted(parts, key=lambda part: shelf.catalogue().index(part[0]))
    return [ahead.index(part) for part in parts]


def slow_sign(shelf, knot):
    if len(knot) == 1:
        return None
    parts = slow_parts(shelf, knot)
    entries = [shelf.catalogue().index(part[0]) for part in parts]
    return "+" if entries[0] < entries[-1] else "-"


def slow_kind(shelf, knot):
    """[26]: straight with two parts, or if some run is a union of two or more parts, but not of all."""
    if len(knot) == 1:
        return "book"
    parts = slow_parts(shelf, knot)
    unions = [set().union(*some) for size in range(2, len(parts)) for some in itertools.combinations(parts, size)]
    if len(parts) == 2 or any(set(run) in unions for run in slow_runs(shelf)):
        return {"+": "rising", "-": "falling"}[slow_sign(shelf, knot)]
    return "crossed"


def slow_tree(shelf, knot):
    if len(knot) == 1:
        return knot[0]
    return slow_kind(shelf, knot), [slow_tree(shelf, part) for part in slow_parts(shelf, knot)]


@keyed
def slow_crossed(shelf):
    return [knot for knot in slow_knots(shelf) if slow_kind(shelf, knot) == "crossed"]


@keyed
def slow_awry(shelf):
    """[31]: the knots of another sign than the least knot around them, the whole if its sign is -."""
    found = []
    for knot in slow_knots(shelf):
        around = slow_around(shelf, knot)
        sign = "+" if around is None else slow_sign(shelf, around)
        if len(knot) > 1 and slow_sign(shelf, knot) != sign:
            found.append(knot)
    return found


def slow_turned(shelf, run):
    row = shelf.row()
    places = [place for place, book in enumerate(row) if book in run]
    books = [row[place] for place in reversed(places)]
    for place, book in zip(places, books):
        row[place] = book
    return Shelf(shelf.catalogue(), row)


def are_turns_of(shelf):
    def judge(value):
        if type(value) is not list:
            return False
        reached = shelf
        for run in value:
            if not is_one_of(slow_runs(reached))(run):
                return False
            reached = slow_turned(reached, run)
        return True
    return judge


def neighbours(catalogue):
    return sorted(tuple(catalogue[start:end]) for start, end in itertools.combinations(range(len(catalogue) + 1), 2)
                  if end - start > 1)


def row_key(shelf):
    return tuple(shelf.row())


class Class:
    """All shelves to which turns lead from one, found by turning, and the turns between them."""

    def __init__(self, shelf, most=None):
        self.shelves = {row_key(shelf): shelf}
        self.turns = {}
        waiting = [shelf]
        while waiting and (most is None or len(self.shelves) <= most):
            one = waiting.pop()
            self.turns[row_key(one)] = {}
            for run in slow_runs(one):
                other = slow_turned(one, run)
                self.turns[row_key(one)][run] = row_key(other)
                if row_key(other) not in self.shelves:
                    self.shelves[row_key(other)] = other
                    waiting.append(other)
        self.whole = not waiting

    def all(self):
        return list(self.shelves.values())

    def turnable(self):
        return sorted({run for shelf in self.all() for run in slow_awry(shelf)})

    def by_awry(self):
        return {tuple(slow_awry(shelf)): shelf for shelf in self.all()}

    def home(self):
        return self.by_awry()[()]

    def prices_from(self, shelf, price):
        """The least prices of turns, and the fewest turns at that price, from a shelf to each row."""
        least, changed = {row_key(shelf): (0, 0)}, [row_key(shelf)]
        while changed:
            later = []
            for row in changed:
                for run, reached in self.turns[row].items():
                    told = (least[row][0] + price(run), least[row][1] + 1)
                    if reached not in least or told < least[reached]:
                        least[reached] = told
                        later.append(reached)
            changed = later
        return least

    def layers_from(self, shelf):
        """The fewest turns from a shelf to each row, layer by layer."""
        return {row: told[1] for row, told in self.prices_from(shelf, lambda run: 1).items()}

    def ways(self, one, other):
        """The ascending list of all shortest ways."""
        layers, goal = self.layers_from(other), row_key(other)

        def ways_from(row):
            if row == goal:
                return [[]]
            return [[run] + way for run, reached in self.turns[row].items() if layers[reached] < layers[row]
                    for way in ways_from(reached)]
        return sorted(ways_from(row_key(one)))

    def parts_without(self, barred):
        """The sets of rows in which the class falls if some runs are not turned."""
        parts, seen = [], set()
        for row in self.shelves:
            if row not in seen:
                part, waiting = {row}, [row]
                while waiting:
                    for run, reached in self.turns[waiting.pop()].items():
                        if run not in barred and reached not in part:
                            part.add(reached)
                            waiting.append(reached)
                parts.append(part)
                seen |= part
        return parts


@keyed
def class_of(shelf):
    return Class(shelf)


def slow_heaps(shelf):
    """[35]: the straight knots of the home of a shelf, each as its parts in the order of the catalogue."""
    home = class_of(shelf).home()
    straight = [knot for knot in slow_knots(home) if slow_kind(home, knot) in ("rising", "falling")]
    place = home.catalogue().index
    return sorted(sorted(slow_parts(home, knot), key=lambda part: place(part[0])) for knot in straight)


def slow_core(shelf):
    """[36], read off the home."""
    home = class_of(shelf).home()

    def core(knot):
        if len(knot) == 1:
            return knot[0]
        parts = slow_parts(home, knot)
        cores = [core(part) for part in sorted(parts, key=lambda part: home.catalogue().index(part[0]))]
        if slow_kind(home, knot) == "crossed":
            numbers = slow_numbers(home, knot)
            return "crossed", min(numbers, numbers[::-1]), cores
        return "heap", cores
    return core(tuple(home.catalogue()))


def shelf_of_ranks(catalogue, entries):
    return Shelf(catalogue, [catalogue[entry] for entry in entries])


@functools.lru_cache(None)
def crossed_rows(size):
    """The lists of ranks of so many books that are one crossed knot."""
    found = []
    for entries in itertools.permutations(range(size)):
        lots = [entries[at:end] for at in range(size) for end in range(at + 2, size + 1) if end - at < size]
        if not any(max(lot) - min(lot) == len(lot) - 1 for lot in lots):
            found.append(list(entries))
    return found


def spread(order, inner):
    """The ranks in which each of some lists of ranks stands in the place of one number of an order."""
    begins = [sum(len(lot) for number, lot in zip(order, inner) if number < mine) for mine in order]
    return [begin + entry for begin, lot in zip(begins, inner) for entry in lot]


def drawn_ranks(drawn, size):
    """Ranks drawn so that knots of all kinds lie within one another."""
    if size == 1:
        return [0]
    kind = drawn.choice(["rising", "falling", "crossed", "any"])
    if kind == "any":
        return drawn.sample(range(size), size)
    if kind == "crossed" and size >= 4:
        order = drawn.choice(crossed_rows(drawn.choice([4, 4, 5] if size > 4 else [4])))
    else:
        order = list(range(drawn.randint(2, min(4, size))))
        order = order[::-1] if kind == "falling" else order
    cuts = sorted(drawn.sample(range(1, size), len(order) - 1))
    sizes = [end - start for start, end in zip([0] + cuts, cuts + [size])]
    return spread(order, [drawn_ranks(drawn, one) for one in sizes])


def drawn_catalogue(drawn, size):
    books = drawn.sample(LETTERS, size)
    return [book * drawn.choice([1, 1, 2]) for book in books]


@functools.lru_cache(None)
def drawn_shelves(seed, sizes, many):
    """Some shelves of each of some sizes, the same in each run of the tests; callers do not change the list."""
    drawn = random.Random(seed)
    return [shelf_of_ranks(drawn_catalogue(drawn, size), drawn_ranks(drawn, size))
            for size in sizes for _ in range(many)]


@functools.lru_cache(None)
def drawn_of_small_class(seed, sizes, many, most):
    """Those of the drawn shelves whose class has at most so many shelves."""
    return [shelf for shelf in drawn_shelves(seed, sizes, many) if Class(shelf, most).whole]


@functools.lru_cache(None)
def shelves_to_four():
    """Every shelf of at most four books, of catalogues that are not in the order of letters."""
    catalogues = [["q"], ["b", "a"], ["a", "b"], ["b", "c", "a"], ["c", "a", "d", "b"]]
    return [shelf for catalogue in catalogues for shelf in shelves_of(catalogue)]


@functools.lru_cache(None)
def shelves_of_twelve():
    return [shelf_of_ranks(TWELVE_BOOKS, entries) for entries in NUMBERS_OF_TWELVE]


def many_shelves():
    """Every shelf of at most four books, drawn ones up to twelve, and some told ones of twelve."""
    return shelves_to_four() + drawn_shelves(1, (5, 6, 7, 9, 12), 12) + shelves_of_twelve()


def classes_to_four():
    """Each class of each catalogue of shelves_to_four, once."""
    found = []
    for shelf in shelves_to_four():
        if not any(shelf.catalogue() == other.catalogue() and row_key(shelf) in told.shelves for other, told in found):
            found.append((shelf, class_of(shelf)))
    return [told for _, told in found]
