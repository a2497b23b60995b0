"""Points [67] to [73]: the sizes of classes, the shelves in them, and how many classes and shelves there are."""

import itertools
import math
import unittest
from fractions import Fraction

from runturns import errors, numbers as module
from runturns.homes import core_of
from runturns.numbers import class_count, class_place, class_shelf, class_shelves, class_size, classes_by_size
from runturns.numbers import crossed_count, farthest_pair, is_farthest_pair, most_turns, sorted_by_turns, sorted_count
from runturns.numbers import turns_from_home, unsorted_least
from runturns.shelves import Shelf
from tests.calls import Names, RightCalls
from tests.helpers import ABC, Arguments, WrongArguments, any_objects, check_error, count_is_right, is_shelf, same
from tests.helpers import shelves_of
from tests.slow import Class, class_of, classes_to_four, crossed_rows, drawn_of_small_class, row_key, shelf_of_ranks
from tests.slow import shelves_of_twelve, slow_awry

HOME, LEFT, RIGHT, CAB = [Shelf(ABC, list(row)) for row in ("abc", "bac", "acb", "cab")]
ABCD, ONE = ["a", "b", "c", "d"], Shelf(["z"], ["z"])
WILD, DLIW, PLAIN = Shelf(ABCD, ["b", "d", "a", "c"]), Shelf(ABCD, ["c", "a", "d", "b"]), Shelf(ABCD, ABCD)
TWO = Shelf(["b", "a"], ["a", "b"])
INTERFACE = {
    "class_size": ["shelf"], "class_shelves": ["shelf"], "class_shelf": ["shelf", "number"], "class_place": ["shelf"],
    "turns_from_home": ["shelf"], "most_turns": ["shelf"], "farthest_pair": ["shelf"],
    "is_farthest_pair": ["shelf", "value"], "sorted_count": ["size"], "sorted_by_turns": ["size"],
    "crossed_count": ["size"], "class_count": ["size"], "classes_by_size": ["size"], "unsorted_least": ["size"]}
OF_SHELVES = (class_size, class_shelves, class_place, turns_from_home, most_turns, farthest_pair)
OF_SIZES = (sorted_count, sorted_by_turns, crossed_count, class_count, classes_by_size)

SHELF = (CAB, errors.InvalidShelf, is_shelf)
SIZE = (3, errors.InvalidCount, count_is_right(1, 10 ** 30))


class WrongInputs(WrongArguments, Names, unittest.TestCase):
    module = module
    interface = INTERFACE
    told = [Arguments(function, SHELF) for function in OF_SHELVES] + \
        [Arguments(function, SIZE) for function in OF_SIZES] + \
        [Arguments(class_shelf, SHELF, (0, errors.InvalidCount, count_is_right(0, 6))),
         Arguments(is_farthest_pair, SHELF, ((CAB, LEFT), None, None)),
         Arguments(unsorted_least, (3, errors.InvalidCount, count_is_right(1, 8)))]

    def test_sizes_that_are_none(self):
        for function in OF_SIZES + (unsorted_least,):
            for size in (0, -1, True, False, None, "3", [3], (3,), {3: 3}):
                check_error(self, function, [size], errors.InvalidCount, size)
        for size in (8, 9, 36, 10 ** 29):
            check_error(self, unsorted_least, [size], errors.InvalidCount, size)

    def test_numbers_beyond_the_last_shelf(self):
        for shelf in (ONE, TWO, CAB, WILD, PLAIN) + tuple(shelves_of_twelve()):
            many = class_size(shelf)
            for number in (many, many + 1, -1, True, False, None, "0", [0]):
                check_error(self, class_shelf, [shelf, number], errors.InvalidCount, number)


class Calls(RightCalls, unittest.TestCase):
    calls = [(function, [shelf]) for function in OF_SHELVES for shelf in (CAB, HOME, WILD, DLIW, PLAIN, TWO, ONE)]
    calls += [(function, [size]) for function in OF_SIZES for size in (1, 2, 5, 7)]
    calls += [(unsorted_least, [size]) for size in (1, 7)]
    calls += [(class_shelf, [CAB, 0]), (class_shelf, [CAB, 5]), (class_shelf, [ONE, 0]), (class_shelf, [DLIW, 1]),
              (is_farthest_pair, [CAB, (LEFT, RIGHT)]), (is_farthest_pair, [CAB, (LEFT, Shelf(ABC, list("bca")))]),
              (is_farthest_pair, [CAB, [LEFT, RIGHT]]), (is_farthest_pair, [CAB, {"a": [LEFT]}])]


def some_classes():
    """Each class of the small catalogues, and those of drawn shelves up to the greatest that are listed."""
    drawn = drawn_of_small_class(8, (5, 6, 7, 9), 8, 100) + drawn_of_small_class(4, (12,), 30, 100)
    largest = [shelf_of_ranks(list("fbdaec"), [0, 1, 2, 3, 4, 5]),
               shelf_of_ranks(list("hgfedcba"), [3, 5, 4, 6, 2, 0, 1, 7])]
    return classes_to_four() + [class_of(shelf) for shelf in drawn + largest]


class Classes(unittest.TestCase):
    def test_the_shelves_of_a_class(self):
        sizes = set()
        for told in some_classes():
            shelves = sorted(told.all(), key=row_key)
            for shelf in shelves[::1 + len(shelves) // 4] + shelves[-1:]:
                self.assertTrue(same(class_shelves(shelf), shelves))
                self.assertTrue(same(class_size(shelf), len(shelves)))
                self.assertTrue(same(class_place(shelf), shelves.index(shelf)))
                for number in {0, len(shelves) // 2, len(shelves) - 1}:
                    self.assertTrue(same(class_shelf(shelf, number), shelves[number]))
            sizes.add(len(shelves))
        self.assertLessEqual({1, 2, 4, 6, 22, 394}, sizes)

    def test_each_shelf_of_the_largest_class(self):
        shelf = shelf_of_ranks(list("fbdaec"), [5, 4, 3, 2, 1, 0])
        shelves = class_shelves(shelf)
        self.assertEqual([len(shelves), class_size(shelf)], [394, 394])
        for number, other in enumerate(shelves):
            self.assertEqual([class_place(other), class_shelf(shelf, number)], [number, other])

    def test_turns_from_home(self):
        for told in some_classes():
            layers = told.layers_from(told.home())
            awry = [len(slow_awry(shelf)) for shelf in told.all()]
            self.assertEqual(sorted(awry), sorted(layers.values()))
            wanted = [awry.count(turns) for turns in range(max(awry) + 1)]
            for shelf in told.all()[:3]:
                self.assertTrue(same(turns_from_home(shelf), wanted))

    def test_millions_of_shelves(self):
        rising, falling, crossed = shelves_of_twelve()[:3]
        for shelf in (rising, falling):
            self.assertEqual([class_size(shelf), most_turns(shelf)], [5293446, 21])
            self.assertEqual(turns_from_home(shelf), sorted_by_turns(12))
        self.assertEqual([class_size(crossed), turns_from_home(crossed), most_turns(crossed)], [2, [1, 1], 1])

    def test_one_book_and_two(self):
        self.assertEqual([class_size(ONE), class_shelves(ONE), class_place(ONE)], [1, [ONE], 0])
        self.assertEqual([turns_from_home(ONE), most_turns(ONE), farthest_pair(ONE)], [[1], 0, (ONE, ONE)])
        self.assertIs(is_farthest_pair(ONE, (ONE, Shelf(["z"], ["z"]))), True)
        self.assertEqual([class_size(TWO), class_place(TWO), turns_from_home(TWO), most_turns(TWO)], [2, 0, [1, 1], 1])


class Farthest(unittest.TestCase):
    def pairs(self, told):
        """All pairs of shelves of a class with the fewest turns between them."""
        for one in told.all():
            layers = told.layers_from(one)
            for other in told.all():
                yield one, other, layers[row_key(other)]

    def test_all_pairs(self):
        for told in some_classes():
            if len(told.shelves) < 50:
                pairs = list(self.pairs(told))
                most = max(turns for _, _, turns in pairs)
                shelf = told.all()[-1]
                self.assertTrue(same(most_turns(shelf), most))
                for one, other, turns in pairs:
                    self.assertIs(is_farthest_pair(shelf, (one, other)), turns == most)
                self.check_pair(told, shelf)

    def check_pair(self, told, shelf):
        pair = farthest_pair(shelf)
        self.assertEqual([type(pair), len(pair)], [tuple, 2])
        turns = told.layers_from(told.shelves[row_key(pair[0])])[row_key(pair[1])]
        self.assertEqual(turns, most_turns(shelf))
        self.assertIs(is_farthest_pair(shelf, pair), True)
        self.assertIs(is_farthest_pair(shelf, list(pair)), False)
        self.assertIs(is_farthest_pair(shelf, pair + pair[:1]), False)
        self.assertIs(is_farthest_pair(shelf, pair[:1]), False)

    def test_large_classes(self):
        for told in some_classes()[-2:]:
            self.check_pair(told, told.all()[7])
        for shelf in shelves_of_twelve():
            one, other = farthest_pair(shelf)
            self.assertEqual(len(set(slow_awry(one)) ^ set(slow_awry(other))), most_turns(shelf))
            self.assertEqual([core_of(one), core_of(other)], [core_of(shelf), core_of(shelf)])
            self.assertIs(is_farthest_pair(shelf, (other, one)), True)

    def test_any_object(self):
        for shelf in (CAB, WILD, ONE):
            for value in any_objects():
                self.assertIs(is_farthest_pair(shelf, value), False, repr(value))
                self.assertIs(is_farthest_pair(shelf, (shelf, value)), shelf is ONE and value == ONE, repr(value))
        others = [Shelf(["d", "c", "b", "a"], ["c", "a", "d", "b"]), PLAIN, CAB, Shelf(["z"], ["z"])]
        for other in others:
            self.assertIs(is_farthest_pair(WILD, (WILD, other)), False)
            self.assertIs(is_farthest_pair(WILD, (other, WILD)), False)
            self.assertIs(is_farthest_pair(WILD, (other, other)), False)
        self.assertIs(is_farthest_pair(WILD, (DLIW, WILD)), True)


def crossed_by_inversion(size):
    """How many rows of so many books, four or more, are crossed: by the inverse of the series of the factorials.

    The entry at n of that inverse is 2 or -2 and the contrary of this number, as Albert and Atkinson have shown.
    """
    # The entry at n is the one at n - 1 of (x / series) to the n, over n.
    series = [Fraction(math.factorial(at + 1)) for at in range(size)]
    inverse = [Fraction(1)]
    for at in range(1, size):
        inverse.append(-sum(series[step] * inverse[at - step] for step in range(1, at + 1)))
    power = [Fraction(1)] + [Fraction(0)] * (size - 1)
    for _ in range(size):
        power = [sum(power[step] * inverse[at - step] for step in range(at + 1)) for at in range(size)]
    return -power[size - 1] / size + (-2 if size % 2 == 0 else 2)


def compositions(size):
    """All lists of counts of at least 1 with a sum."""
    if size == 0:
        return [[]]
    return [[first] + rest for first in range(1, size + 1) for rest in compositions(size - first)]


class Sizes(unittest.TestCase):
    def test_shelves_that_can_be_sorted(self):
        for size in range(1, 7):
            books = list("fbdaec")[:size]
            told = Class(Shelf(books, books))
            layers = list(told.layers_from(Shelf(books, books)).values())
            self.assertTrue(same(sorted_count(size), len(layers)))
            self.assertTrue(same(sorted_by_turns(size), [layers.count(turns) for turns in range(max(layers) + 1)]))

    def test_sorted_counts_up_to_the_limit(self):
        # Lots of runs of k things are the ways to cut a shape of k + 1 corners by lines, with the whole or without.
        schroeder = [1, 2]
        for size in range(2, 36):
            schroeder.append((3 * (2 * size - 1) * schroeder[-1] - (size - 2) * schroeder[-2]) // (size + 1))
        for size in range(2, 37):
            cuts = [math.comb(size - 2, many) * math.comb(size + many, many) // (many + 1) for many in range(size - 1)]
            wanted = [first + second for first, second in zip(cuts + [0], [0] + cuts)]
            self.assertTrue(same(sorted_by_turns(size), wanted))
            self.assertTrue(same(sorted_count(size), schroeder[size - 1]))
            self.assertEqual(sum(wanted), sorted_count(size))

    def test_crossed_counts(self):
        for size in range(1, 8):
            wanted = len(crossed_rows(size)) if size > 3 else 0
            self.assertTrue(same(crossed_count(size), wanted))
        for size in range(4, 26):
            self.assertTrue(same(crossed_count(size), int(crossed_by_inversion(size))))
            self.assertEqual(crossed_by_inversion(size).denominator, 1)

    def test_classes_of_all_shelves(self):
        for size in range(1, 6):
            shelves, sizes = {row_key(shelf): shelf for shelf in shelves_of(list("ecadb")[:size])}, []
            while shelves:
                told = Class(next(iter(shelves.values())))
                sizes.append(len(told.shelves))
                shelves = {row: shelf for row, shelf in shelves.items() if row not in told.shelves}
            self.assertTrue(same(class_count(size), len(sizes)))
            self.assertTrue(same(classes_by_size(size), {many: sizes.count(many) for many in sorted(set(sizes))}))

    def test_classes_of_six_and_seven_books_by_their_cores(self):
        for size in (6, 7):
            cores = {}
            for shelf in shelves_of(list("gbfdcea")[:size]):
                core = repr(core_of(shelf))
                cores[core] = cores.get(core, 0) + 1
            sizes = list(cores.values())
            self.assertTrue(same(class_count(size), len(sizes)))
            self.assertTrue(same(classes_by_size(size), {many: sizes.count(many) for many in sorted(set(sizes))}))

    def test_all_shelves_are_in_some_class(self):
        for size in range(1, 12):
            told = classes_by_size(size)
            self.assertEqual(sum(many * count for many, count in told.items()), math.factorial(size))
            self.assertEqual(sum(told.values()), class_count(size))
            self.assertEqual(list(told), sorted(told))

    def test_class_counts_up_to_the_limit(self):
        # All ways to cut so many books into things or parts, gone through.
        cores, bare = [0, 1], [0, 1]
        for size in range(2, 15):
            lots = compositions(size)
            crossed = sum(crossed_count(len(lot)) // 2 * math.prod(cores[one] for one in lot)
                          for lot in lots if len(lot) > 3)
            bare.append(crossed)
            cores.append(crossed + sum(math.prod(bare[one] for one in lot) for lot in lots if len(lot) > 1))
            self.assertTrue(same(class_count(size), cores[size]))
        for size in range(15, 26):
            # Each class of fewer books makes one with a book more behind all others; crossed rows pair up.
            self.assertGreater(class_count(size), class_count(size - 1) + crossed_count(size) // 2)
            self.assertLess(2 * class_count(size), math.factorial(size))

    def test_class_count_at_the_limit(self):
        # Two lots of classes: those whose core is a heap, and others; a heap is what rows of others are, added up.
        cores = [class_count(size) for size in range(1, 26)]
        bare = []
        for size in range(25):
            bare.append(cores[size] - sum(bare[at] * cores[size - at - 1] for at in range(size)))
        power = [0] * 25
        power[0] = 1
        crossed = [0] * 26
        for parts in range(1, 26):
            # The entries of the power of the cores, the one of 0 books first; here each of them has one book less.
            power = [sum(power[at] * cores[size - at] for at in range(size + 1)) for size in range(25)]
            many = crossed_count(parts) // 2 if parts > 3 else 0
            crossed = [crossed[size] + (many * power[size - parts] if size >= parts else 0) for size in range(26)]
        self.assertEqual([1] + crossed[2:], bare)


def bad_fours_of(entries):
    return [set(four) for four in itertools.combinations(entries, 4)
            if four[2] < four[0] < four[3] < four[1] or four[1] < four[3] < four[0] < four[2]]


class UnsortedLeast(unittest.TestCase):
    def test_all_shelves(self):
        for size in range(1, 8):
            most = 0
            for entries in itertools.permutations(range(size)):
                fours, out = bad_fours_of(entries), most
                while not any(all(four & set(some) for four in fours)
                              for some in itertools.combinations(range(size), out)):
                    out += 1
                most = max(most, out)
            self.assertTrue(same(unsorted_least(size), most))

    def test_as_the_document_tells(self):
        self.assertEqual([unsorted_least(size) for size in range(1, 8)], [0, 0, 0, 1, 1, 2, 2])
