"""Points [108] to [112]: texts of shelves, turns, prices and changes, and what they are read as."""

import itertools
import random
import unittest

from runturns import errors, papers as module
from runturns.papers import change_text, prices_text, read_change, read_prices, read_shelf, read_shelves, read_turns
from runturns.papers import shelf_text, shelves_text, turns_text
from runturns.shelves import Shelf
from tests.calls import Names, RightCalls
from tests.helpers import ABC, Arguments, WrongArguments, any_objects, bent_texts, check_error, is_shelf, same
from tests.slow import drawn_shelves, many_shelves, slow_awry
from tests.texts import are_prices, are_runs, are_shelves, change_by_words, is_change, prices_by_words, shelf_by_words
from tests.texts import shelves_by_words, turns_by_words

CAB, ONE = Shelf(ABC, ["c", "a", "b"]), Shelf(["z"], ["z"])
LONG = Shelf(["abcdefgh", "ab", "a", "zzzzzzzz"], ["zzzzzzzz", "a", "ab", "abcdefgh"])
RUNS, PRICES = [("b", "a"), ("a", "b", "c")], {("b", "c"): 10, ("a", "b"): 0}
INTERFACE = {
    "shelf_text": ["shelf"], "read_shelf": ["text"], "turns_text": ["turns"], "read_turns": ["text"],
    "prices_text": ["prices"], "read_prices": ["text"], "change_text": ["change"], "read_change": ["text"],
    "shelves_text": ["shelves"], "read_shelves": ["text"]}


READERS = [(read_shelf, shelf_by_words), (read_shelves, shelves_by_words), (read_turns, turns_by_words),
           (read_prices, prices_by_words), (read_change, change_by_words)]
TEXTS = ["a b c\nc a b", "z\nz", "z\nz\n\nz\nz", "", "b a\na b c", "a b = 0\nb c = 10", "a b = 7", "put x 1 3", "out x",
         "list a 0", "move ab 10", "a b\nb a\n\nc\nc\n\na c b\nb a c", "a b\na b\na b", "a b = 0\na b c = 0\nb a = 100"]


def is_text_for(by_words):
    return lambda value: type(value) is str and by_words(value) is not None


class WrongInputs(WrongArguments, Names, unittest.TestCase):
    module = module
    interface = INTERFACE
    told = [
        Arguments(shelf_text, (CAB, errors.InvalidShelf, is_shelf)),
        Arguments(turns_text, (RUNS, errors.InvalidTurns, are_runs)),
        Arguments(prices_text, (PRICES, errors.InvalidPrices, are_prices)),
        Arguments(change_text, (("out", "a"), errors.InvalidChange, is_change)),
        Arguments(shelves_text, ([CAB], errors.InvalidShelves, are_shelves))] + [
            Arguments(reader, (text, errors.InvalidText, is_text_for(by_words)))
            for (reader, by_words), text in zip(READERS, ["z\nz", "z\nz", "a b", "a b = 7", "out x"])]

    def test_prices_that_are_none(self):
        for prices in ({("a", "b"): True}, {("a", "b"): -1}, {("a",): 1}, {("a", "a"): 1}, {("a", "b"): "1"}, {"ab": 1},
                       {("a", "B"): 1}, {("a", "b"): 1, 0: 1}, [(("a", "b"), 1)], {(): 0}, {("a", "b"): None}, None):
            check_error(self, prices_text, [prices], errors.InvalidPrices, prices)

    def test_runs_that_are_none(self):
        for turns in ([("a",)], [("a", "a")], [["a", "b"]], [()], (("a", "b"),), [("a", "B")], [("a", "b"), None],
                      "a b", [("a", True)], {("a", "b"): 1}, [(("a", "b"),)], None):
            check_error(self, turns_text, [turns], errors.InvalidTurns, turns)


class Calls(RightCalls, unittest.TestCase):
    calls = [(shelf_text, [shelf]) for shelf in (CAB, ONE, LONG)] + [(read_shelf, ["a b c\nc a b"]), (read_turns, [""])]
    calls += [(turns_text, [RUNS]), (turns_text, [[]]), (read_turns, ["b a\na b c"]), (prices_text, [PRICES]),
              (prices_text, [{}]), (read_prices, ["a b = 7\nb c = 0"]), (read_prices, [""]), (read_shelves, [""]),
              (change_text, [("put", "x", 1, 3)]), (read_change, ["put x 1 3"]), (shelves_text, [[CAB, ONE, CAB]]),
              (shelves_text, [[]]), (read_shelves, ["z\nz\n\na b\nb a"])]


class Readers(unittest.TestCase):
    def check_text(self, text):
        for reader, by_words in READERS:
            wanted = by_words(text)
            if wanted is None:
                check_error(self, reader, [text], errors.InvalidText, text)
            else:
                self.assertTrue(same(reader(text), wanted), (reader.__name__, text))

    def test_told_texts(self):
        for text in TEXTS:
            self.check_text(text)
        self.assertEqual([len([text for text in TEXTS if by_words(text) is not None]) for _, by_words in READERS],
                         [2, 5, 5, 4, 4])

    def test_texts_that_are_bent_in_one_place(self):
        for text in TEXTS:
            for bent in bent_texts(text):
                self.check_text(bent)

    def test_any_object(self):
        for value in any_objects():
            if type(value) is str:
                self.check_text(value)
            else:
                for reader, _ in READERS:
                    check_error(self, reader, [value], errors.InvalidText, value)

    def test_numbers(self):
        for number in ("00", "01", "-1", "+1", "1.0", "1_0", "", " ", "0x1", "1e3", "one", "1 ", "None", "True"):
            for reader, text in ((read_prices, f"a b = {number}"), (read_change, f"move a {number}")):
                check_error(self, reader, [text], errors.InvalidText, text)
        for number in ("0", "1", "10", "60", "9" * 30):
            self.assertTrue(same(read_prices(f"a b = {number}"), {("a", "b"): int(number)}))
            self.assertTrue(same(read_change(f"put a {number} 0"), ("put", "a", int(number), 0)))

    def test_keys_of_prices_ascend(self):
        for text in ("b c = 1\na b = 1", "a b = 1\na b = 1", "a b = 1\na b = 2", "a b c = 1\na b = 1"):
            check_error(self, read_prices, [text], errors.InvalidText, text)
        self.assertEqual(list(read_prices("a b = 1\na b c = 1\nb a = 0")), [("a", "b"), ("a", "b", "c"), ("b", "a")])

    def test_line_ends_in_other_places(self):
        for text in ("z\nz\n", "\nz\nz", "z\n\nz", "z", "z\nz\nz", "z\nz\n\n", "z\nz\n\n\nz\nz", "a b\na b\n", "\n"):
            check_error(self, read_shelf, [text], errors.InvalidText, text)
            check_error(self, read_shelves, [text], errors.InvalidText, text)


class Writers(unittest.TestCase):
    def test_shelves(self):
        shelves = many_shelves()
        for shelf in shelves:
            text = shelf_text(shelf)
            self.assertEqual(text, " ".join(shelf.catalogue()) + "\n" + " ".join(shelf.row()))
            self.assertTrue(same(read_shelf(text), shelf))
        for at in range(0, len(shelves), 5):
            some = shelves[at:at + at % 8]
            text = shelves_text(some)
            self.assertEqual(text, "\n\n".join(shelf_text(shelf) for shelf in some))
            self.assertTrue(same(read_shelves(text), some))

    def test_turns_and_lots(self):
        drawn = random.Random(79)
        for shelf in drawn_shelves(1, (5, 7, 9, 12), 12):
            lot = slow_awry(shelf)
            turns = [tuple(drawn.sample(shelf.row(), drawn.randint(2, 5))) for _ in range(drawn.randint(0, 40))]
            for runs in (lot, turns, turns + turns[:1]):
                text = turns_text(runs)
                self.assertEqual(text, "\n".join(" ".join(run) for run in runs))
                self.assertTrue(same(read_turns(text), runs))

    def test_prices(self):
        drawn = random.Random(83)
        for shelf in drawn_shelves(1, (5, 7, 9, 12), 12):
            runs = sorted({tuple(drawn.sample(shelf.row(), drawn.randint(2, 3))) for _ in range(20)})
            prices = {run: drawn.choice([0, 1, 9, 10, 60, 10 ** 29]) for run in runs}
            text = prices_text({run: prices[run] for run in drawn.sample(runs, len(runs))})
            self.assertEqual(text, "\n".join(f"{' '.join(run)} = {prices[run]}" for run in runs))
            self.assertTrue(same(read_prices(text), prices))

    def test_changes(self):
        numbers = (0, 1, 9, 10, 100, 10 ** 29)
        for book in ("a", "abcdefgh", "put", "out"):
            changes = [("out", book)] + [(word, book, number) for word in ("move", "list") for number in numbers]
            changes += [("put", book, *two) for two in itertools.product(numbers, repeat=2)]
            for change in changes:
                self.assertEqual(change_text(change), " ".join(str(piece) for piece in change))
                self.assertTrue(same(read_change(change_text(change)), change))

    def test_books_with_the_words_of_texts(self):
        books = ["end", "put", "out", "try"]
        shelf = Shelf(books, books[::-1])
        self.assertTrue(same(read_shelf(shelf_text(shelf)), shelf))
        self.assertTrue(same(read_turns(turns_text([("out", "a"), ("end", "put")])), [("out", "a"), ("end", "put")]))
