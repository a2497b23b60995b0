"""Points [104] to [107]: scripts, what is said while they are played, their texts, their ends, and what is left out."""

import copy
import functools
import random
import unittest

from runturns import errors, scripts as module
from runturns.hall import Hall
from runturns.scripts import end_of, play, read_script, script_text, shortened
from runturns.shelves import Shelf
from tests.calls import MADE_ELSEWHERE, Names, RightCalls, spoil, with_shelves
from tests.helpers import ABC, Arguments, WrongArguments, any_objects, bent_texts, catalogue_is_right, check_error, same
from tests.helpers import shelves_of
from tests.model import Drawing, PlainHall, Wrong, check_hall, told_now
from tests.slow import class_of, shelf_of_ranks, shelves_of_twelve
from tests.texts import LINES, is_script, script_by_words, text_of_script

HOME, LEFT, RIGHT, CAB, CBA = [Shelf(ABC, list(row)) for row in ("abc", "bac", "acb", "cab", "cba")]
ABCD, ONE = ["a", "b", "c", "d"], Shelf(["z"], ["z"])
WILD, PLAIN = Shelf(ABCD, ["b", "d", "a", "c"]), Shelf(ABCD, ABCD)
AB, BC, ALL = ("a", "b"), ("b", "c"), ("a", "b", "c")
INTERFACE = {"play": ["hall", "script"], "script_text": ["script"], "read_script": ["text"],
             "end_of": ["catalogue", "script"], "shortened": ["catalogue", "script"]}
DAY = [("put", LEFT), ("wish", 0, RIGHT), ("left", 0), ("needed", 0), ("openings", 0), ("turn", 0, BC), ("go", 0),
       ("bar", AB), ("try", [("go", 0), ("undo",), ("try", [("redo",), ("left", 0)])]), ("put", CAB), ("undo",),
       ("redo",)]
ALL_WORDS = [("put", LEFT), ("put", CAB), ("put", CBA), ("meet", 0, 1, 2), ("exchange", 1, LEFT), ("wish", 1, RIGHT),
             ("left", 1), ("needed", 1), ("openings", 1), ("go", 1), ("unwish", 1), ("bar", ALL), ("turn", 1, BC),
             ("unbar", ALL), ("take", 2), ("undo",), ("redo",), ("try", [("take", 0)]), ("try", [])]


class WrongInputs(WrongArguments, Names, unittest.TestCase):
    module = module
    interface = INTERFACE
    told = [Arguments(play, (Hall(ABC), errors.InvalidHall, lambda value: type(value) is Hall),
                      (DAY, errors.InvalidScript, is_script)),
            Arguments(script_text, (DAY, errors.InvalidScript, is_script)),
            Arguments(read_script, ("undo", errors.InvalidText,
                                    lambda value: type(value) is str and script_by_words(value) is not None)),
            Arguments(end_of, (ABC, errors.InvalidCatalogue, catalogue_is_right),
                      (DAY, errors.InvalidScript, is_script)),
            Arguments(shortened, (ABC, errors.InvalidCatalogue, catalogue_is_right),
                      (DAY, errors.InvalidScript, is_script))]

    def wrong_commands(self):
        """Commands that are nearly ones: each thing of each word exchanged, left out, and put in."""
        others = [None, True, False, -1, 0, "0", "a", [], (), ("a",), ("a", "a"), ("a", "B"), ["a", "b"], AB, LEFT,
                  [("undo",)], ("undo",), [LEFT], {}, {0: 1}, Hall(ABC), [None]]
        for command in ALL_WORDS:
            things = list(command[1:])
            for other in others:
                for at in range(len(things)):
                    yield (command[0], *things[:at], other, *things[at + 1:])
                yield command + (other,)
                yield (other, *things)
            yield command[:-1]
            yield list(command)
            yield (command[0].upper(), *things)

    def test_commands_that_are_none(self):
        hall, many = Hall(ABC), [0, 0]
        for command in self.wrong_commands():
            for script in ([command], [("undo",), command], [("try", [command])], [("try", [("try", [command])])]):
                right = is_script(script)
                many[right] += 1
                if right:
                    self.assertTrue(same(read_script(script_text(script)), script))
                else:
                    for function, first in ((play, [hall]), (script_text, []), (end_of, [ABC]), (shortened, [ABC])):
                        check_error(self, function, first + [script], errors.InvalidScript, script)
        self.assertGreater(min(many), 50)
        self.assertEqual(hall.log(), [])

    def test_scripts_that_are_none(self):
        for script in (tuple(DAY), None, "undo", ("undo",), {0: ("undo",)}, [DAY], [["undo"]], [()], [("try", ())],
                       True):
            check_error(self, script_text, [script], errors.InvalidScript, script)
            check_error(self, play, [Hall(ABC), script], errors.InvalidScript, script)


class Calls(RightCalls, unittest.TestCase):
    calls = [(script_text, [script]) for script in (DAY, ALL_WORDS, [], [("try", [])])]
    calls += [(read_script, [text]) for text in ("", "undo", "try\n  put\n    a\n    a\n  end\nend", "turn 0 a b")]
    calls += [(function, [ABC, script]) for function in (end_of, shortened) for script in (DAY, ALL_WORDS, [])]
    calls += [(end_of, [["z"], [("put", ONE), ("wish", 0, ONE)]]), (shortened, [["z"], [("put", ONE), ("undo",)]])]


def said_by(plain, script):
    """What has to be said while a script is played on a plain hall, which changes."""
    return [said_of(plain, *command) for command in script]


def said_of(plain, word, *things):
    if word == "try":
        done, undone = plain.done, plain.undone
        said = said_by(plain, things[0])
        plain.done, plain.undone = done, undone
        return "tried", said
    try:
        if word in ("left", "needed", "openings"):
            now = plain.now()
            now.check_spot(things[0])
            needed = now.needed(things[0])
            asked = {"needed": needed, "openings": now.openings(things[0]),
                     "left": None if needed is None else len(needed)}
            return word, asked[word]
        found = plain.make(word, *things)
    except Wrong as wrong:
        return "refused", wrong.kind.__name__
    told = {"put": "put", "go": "gone", "meet": "met"}
    return (told[word], found) if word in told else ("done",)


def end_by(catalogue, script):
    plain = PlainHall(catalogue)
    said_by(plain, script)
    now = plain.now()
    return {spot: (now.shelves[spot], now.wishes.get(spot)) for spot in sorted(now.shelves)}, sorted(now.bars)


def drawn_command(drawn, drawing, plain, deep):
    """A command of a script that may be taken or not."""
    choice = drawn.random()
    if choice < 0.15 and deep < 4:
        return "try", drawn_commands(drawn, drawing, plain.copy(), drawn.randint(0, 4), deep + 1)
    if choice < 0.3:
        return drawn.choice(["left", "needed", "openings"]), drawn.choice([0, 0, 1, 2, 7])
    word, things = drawing.command(plain)
    return (word, *things)


def drawn_commands(drawn, drawing, plain, many, deep=0):
    script = []
    while len(script) < many:
        command = drawn_command(drawn, drawing, plain, deep)
        if is_script([command]):
            script.append(command)
            said_by(plain, [command])
    return script


@functools.lru_cache(None)
def drawn_scripts(seed, many):
    """Catalogues and scripts; callers do not change them."""
    drawn, found = random.Random(seed), []
    for turn in range(many):
        catalogue = [["q"], ["b", "a"], ["b", "c", "a"], ["c", "a", "d", "b"]][turn % 4]
        shelves = shelves_of(catalogue)
        some = class_of(drawn.choice(shelves)).all()[:5] + [drawn.choice(shelves)]
        if len(catalogue) == 4:
            some.append(shelf_of_ranks(catalogue, [1, 3, 0, 2]))
        plain = PlainHall(catalogue)
        first = [("put", drawn.choice(some)) for _ in range(drawn.choice([0, 0, 1, 3]))]
        said_by(plain, first)
        rest = drawn_commands(drawn, Drawing(drawn, catalogue, some), plain, drawn.randint(0, 12 - len(first)))
        found.append((catalogue, first + rest))
    return found


class Played(unittest.TestCase):
    def test_drawn_scripts(self):
        seen = {}
        for catalogue, script in drawn_scripts(103, 600):
            hall, plain = Hall(catalogue), PlainHall(catalogue)
            said = play(hall, script)
            self.assertTrue(same(said, said_by(plain, script)), script)
            check_hall(self, hall, plain)
            for told in said:
                seen[told[:2] if told[0] == "refused" else told[0]] = True
            for step in (hall.undo, hall.redo):
                for _ in range(4):
                    try:
                        step()
                        plain.make(step.__name__)
                    except errors.ShelfError:
                        pass
                    check_hall(self, hall, plain)
        names = ("InvalidSpot", "InvalidRun", "Unlike", "Apart", "Refused", "NothingToUndo", "NothingToRedo")
        wanted = [("refused", name) for name in names]
        wanted += ["put", "gone", "met", "left", "needed", "openings", "tried", "done"]
        self.assertEqual([told for told in wanted if told not in seen], [])

    def test_on_halls_that_are_not_new(self):
        scripts = drawn_scripts(107, 80)
        for (catalogue, first), (_, second) in zip(scripts, scripts[4:]):
            hall, plain = Hall(catalogue), PlainHall(catalogue)
            play(hall, first)
            said_by(plain, first)
            with hall.trial():
                twin = plain.copy()
                self.assertTrue(same(play(hall, second), said_by(twin, second)))
                check_hall(self, hall, twin)
            check_hall(self, hall, plain)
            self.assertTrue(same(play(hall, second), said_by(plain, second)))
            check_hall(self, hall, plain)

    def test_all_words(self):
        said = play(Hall(ABC), ALL_WORDS)
        self.assertTrue(same(said, [
            ("put", 0), ("put", 1), ("put", 2), ("met", CAB), ("done",), ("done",), ("left", 2), ("needed", [AB, BC]),
            ("openings", [AB]), ("gone", AB), ("done",), ("done",), ("done",), ("done",), ("done",), ("done",),
            ("done",), ("tried", [("done",)]), ("tried", [])]))

    def test_each_error(self):
        stranger = Shelf(["z"], ["z"])
        script = [("undo",), ("redo",), ("put", stranger), ("take", 0), ("bar", ("z", "y")), ("go", 10 ** 29)]
        self.assertEqual(play(Hall(ABCD), script), [
            ("refused", "NothingToUndo"), ("refused", "NothingToRedo"), ("refused", "Unlike"),
            ("refused", "InvalidSpot"), ("refused", "InvalidRun"), ("refused", "InvalidSpot")])
        script = [("put", PLAIN), ("put", WILD), ("wish", 0, WILD), ("go", 0), ("left", 0), ("needed", 0),
                  ("openings", 0), ("left", 2), ("needed", 2), ("openings", 2), ("meet", 0, 0, 1),
                  ("turn", 1, ("a", "b"))]
        self.assertEqual(play(Hall(ABCD), script)[2:], [
            ("refused", "Apart"), ("refused", "Refused"), ("left", None), ("needed", None), ("openings", None),
            ("refused", "InvalidSpot"), ("refused", "InvalidSpot"), ("refused", "InvalidSpot"),
            ("refused", "InvalidSpot"), ("refused", "InvalidRun")])

    def test_tries_within_tries(self):
        hall = Hall(ABC)
        inner = [("put", HOME), ("undo",), ("undo",), ("undo",)]
        script = [("put", LEFT), ("try", [("turn", 0, AB), ("try", [("undo",), ("try", [("try", inner)])]), ("redo",)]),
                  ("undo",), ("try", [("redo",), ("turn", 0, ALL)]), ("redo",)]
        said = play(hall, script)
        self.assertEqual(said[1], ("tried", [("done",), ("tried", [("done",), ("tried", [
            ("tried", [("put", 1), ("done",), ("done",), ("refused", "NothingToUndo")])])]),
            ("refused", "NothingToRedo")]))
        self.assertEqual(said[2:], [("done",), ("tried", [("done",), ("done",)]), ("done",)])
        self.assertEqual([hall.log(), hall.shelf(0)], [[("put", LEFT)], LEFT])

    def test_what_was_passed_and_returned_is_free(self):
        hall, script = Hall(ABC), copy.deepcopy(DAY)
        said = play(hall, script)
        self.assertTrue(same(script, DAY))
        told, kept = told_now(hall), copy.deepcopy(said)
        spoil(script)
        self.assertTrue(same([told_now(hall), said], [told, kept]))
        spoil(said)
        self.assertTrue(same(told_now(hall), told))
        self.assertTrue(same(play(Hall(ABC), DAY), kept))
        self.assertTrue(same(play(script=DAY, hall=Hall(ABC)), kept))

    def test_a_wrong_script_changes_nothing(self):
        hall = Hall(ABC)
        play(hall, DAY)
        told = told_now(hall)
        script = [("take", 0), ("undo",), ("try", [("take",)])]
        check_error(self, play, [hall, script], errors.InvalidScript, script)
        self.assertTrue(same(told_now(hall), told))

    def test_shelves_that_were_made_elsewhere(self):
        said = play(Hall(ABC), DAY)
        for make in MADE_ELSEWHERE:
            self.assertTrue(same(play(Hall(ABC), with_shelves(DAY, make)), said))


class Texts(unittest.TestCase):
    def check_text(self, text):
        wanted = script_by_words(text)
        if wanted is None:
            check_error(self, read_script, [text], errors.InvalidText, text)
        else:
            self.assertTrue(same(read_script(text), wanted), text)
            self.assertEqual(script_text(wanted), text)

    def test_drawn_scripts(self):
        for _, script in drawn_scripts(103, 600):
            text = script_text(script)
            self.assertEqual(text, "\n".join(text_of_script(script)))
            self.assertTrue(same(read_script(text), script))
            self.assertTrue(same(script_by_words(text), script))

    def test_texts_that_are_bent_in_one_place(self):
        scripts = [[], [("undo",)], [("try", [])], ALL_WORDS[-6:], ALL_WORDS[3:7], [("put", ONE), ("try", DAY[:1])],
                   [("try", [("try", [("bar", AB)]), ("wish", 10, ONE)]), ("meet", 0, 10, 2)], DAY[5:9]]
        read = 0
        for script in scripts:
            for text in bent_texts(script_text(script)):
                self.check_text(text)
                read += script_by_words(text) is not None
        self.assertGreater(read, 200)

    def test_drawn_texts_that_are_bent(self):
        drawn = random.Random(109)
        for _, script in drawn_scripts(113, 60):
            bent = bent_texts(script_text(script))
            for text in drawn.sample(bent, min(len(bent), 40)):
                self.check_text(text)
            for other in drawn.sample(bent, 2):
                for text in drawn.sample(bent_texts(other), 10):
                    self.check_text(text)

    def test_any_object(self):
        for value in any_objects():
            if type(value) is str:
                self.check_text(value)
            else:
                check_error(self, read_script, [value], errors.InvalidText, value)

    def test_each_line(self):
        for word in list(LINES) + ["end", "", "swap", "Put"]:
            for rest in ("", " ", " 0", " 0 1", " 0 1 2", " a", " a b", " 0 a b", " 0 a", " 00", " -1", " 0 a a"):
                for below in ("", "\n  a\n  a\nend", "\nend", "\n  undo\nend", "\n  a\n  a", "\n  a\n  a\n  end",
                              "\n  a\n  a\nend\nend", "\n  a b\n  b a\nend", "\n  a\n  b\nend", "\n a\n a\nend"):
                    self.check_text(word + rest + below)

    def test_numbers_and_books(self):
        for number in (0, 9, 10, 10 ** 29):
            self.check_text(f"take {number}")
            self.assertTrue(same(read_script(f"take {number}"), [("take", number)]))
        for text in ("take 01", "take +1", "take 1.0", "take 1 ", "bar a", "bar a a", "bar a b ", "bar a  b",
                     "bar A b"):
            check_error(self, read_script, [text], errors.InvalidText, text)
        books = ["end", "put", "try", "undo"]
        script = [("put", Shelf(books, books[::-1])), ("bar", ("end", "put")), ("turn", 0, ("try", "undo"))]
        self.assertEqual(script_text(script), "put\n  end put try undo\n  undo try put end\nend\nbar end put\n"
                                              "turn 0 try undo")
        self.assertTrue(same(read_script(script_text(script)), script))

    def test_shelves_of_twelve_books(self):
        for shelf in shelves_of_twelve():
            script = [("try", [("wish", 3, shelf)]), ("exchange", 0, shelf)]
            row, catalogue = " ".join(shelf.row()), " ".join(shelf.catalogue())
            self.assertEqual(script_text(script), f"try\n  wish 3\n    {catalogue}\n    {row}\n  end\nend\n"
                                                  f"exchange 0\n  {catalogue}\n  {row}\nend")
            self.assertTrue(same(read_script(script_text(script)), script))


class Ends(unittest.TestCase):
    def test_end_of_drawn_scripts(self):
        for catalogue, script in drawn_scripts(103, 600):
            self.assertTrue(same(end_of(catalogue, script), end_by(catalogue, script)))

    def test_end_of_at_the_edges(self):
        self.assertTrue(same(end_of(ABC, []), ({}, [])))
        script = [("put", LEFT), ("put", ONE), ("put", CAB), ("take", 0)]
        self.assertTrue(same(end_of(ABC, script), ({1: (CAB, None)}, [])))
        self.assertTrue(same(end_of(["z"], [("put", ONE), ("wish", 0, ONE)]), ({0: (ONE, ONE)}, [])))
        self.assertTrue(same(end_of(ABC, [("bar", BC), ("bar", AB)]), ({}, [AB, BC])))

    def shortened_by(self, catalogue, script):
        end, left = end_by(catalogue, script), list(script)
        for at in range(len(script) - 1, -1, -1):
            without = left[:at] + left[at + 1:]
            if same(end_by(catalogue, without), end):
                left = without
        return left

    def test_shortened_drawn_scripts(self):
        shorter = 0
        for catalogue, script in drawn_scripts(103, 600):
            wanted = self.shortened_by(catalogue, script)
            self.assertTrue(same(shortened(catalogue, script), wanted), script)
            self.assertTrue(same(end_of(catalogue, wanted), end_of(catalogue, script)))
            shorter += 0 < len(wanted) < len(script)
        self.assertGreater(shorter, 100)

    def test_shortened_at_the_edges(self):
        self.assertEqual([shortened(ABC, []), shortened(ABC, [("try", [("put", LEFT)])])], [[], []])
        # A redo that is refused is left out ahead of the undo that it would have taken back.
        script = [("put", LEFT), ("undo",), ("redo",), ("redo",)]
        self.assertTrue(same(shortened(ABC, script), [("put", LEFT), ("redo",)]))

    def test_no_try_is_left_and_no_list_is_shared(self):
        inner = [("undo",), ("try", [("put", CAB)])]
        script = [("put", LEFT), ("try", inner), ("turn", 0, AB), ("try", [])]
        found = shortened(ABC, script)
        self.assertTrue(same(found, [("put", LEFT), ("turn", 0, AB)]))
        found.clear()
        self.assertTrue(same(script, [("put", LEFT), ("try", inner), ("turn", 0, AB), ("try", [])]))
        read = read_script(script_text(script))
        read[1][1].append("spoilt")
        self.assertTrue(same(read_script(script_text(script)), script))
