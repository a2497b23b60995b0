"""What the tests share: any objects, strict comparison, and checks of wrong arguments."""

import copy
import inspect
import itertools
import re

from runturns import errors
from runturns.hall import Hall
from runturns.shelves import Shelf

ABC, DCBA = ["a", "b", "c"], ["d", "c", "b", "a"]
# A catalogue that is not in the order of letters.
MIXED = ["pear", "fig", "zz", "apple", "mango"]
TWELVE = list("kbhdalcgifje")
LINES = ["a b c\nc a b", "a b\nb c", "a b c\nc a b\n", "a\na", "a b\nb a", "a b = 1", "a b = 01", "put x 0 0",
         "put x 0", "out a", "move a 2", "list a -1", "turn 0 a b", "undo", "redo\nundo", "try\nend",
         "try\n  undo\nend", "put\n  a\n  a\nend", "put\n a\n a\nend", "wish 0\n  a b\n  b a\nend",
         "a\na\n\na\na", "\n", "\n\n"]


def nested(wrap, depth):
    value = "a"
    for _ in range(depth):
        value = wrap(value)
    return value


def any_objects():
    """New objects of all kinds that [2] names, many of them nearly what some function wants."""
    shelf = Shelf(["a", "b", "c"], ["c", "a", "b"])
    plain = [None, True, False, 0, 1, 2, 3, 4, 5, 6, 24, -1, -2, 10 ** 29]
    texts = ["", "a", "b", "z", "A", "aB", "a1", "a b", " a", "a\n", "\t", "~", "abcdefgh", "abcdefghi", "put", "a,b"]
    lists = [[], [None], ["a"], ["b"], ["a", "b"], ["b", "a"], ["a", "a"], ["a", "c"], ["a", "b", "c"], ["c", "b", "a"],
             ["a", "b", "x"], ["a", "b", "c", "d"], ["a", "b", "b"], ["a", "b", "C"], ["a", "b", ""], ["a", "b", None],
             ["a", ["b"]], [("a",)], [["a", "b"]], [True, False], [0, 1, 2], [1], [shelf], [shelf, "a"],
             [("a", "b")], [("out", "a")], [("out", "a"), None], [["out", "a"]], [{}], [[]]]
    tuples = [(), (None,), ("a",), ("a", "b"), ("b", "a"), ("a", "c"), ("b", "c"), ("a", "b", "c"), ("c", "b", "a"),
              ("a", "b", "x"), ("a", "b", "c", "d"), ("a", "a"), ("a", "b", "a"), ("a", True), ("a", ["b"]),
              ("a", shelf), (("a", "b"),), (0, 1), (True, False), (["a", "b"],)]
    changes = [("put",), ("out",), ("put", "a"), ("out", "a"), ("out", "x"), ("out", "a", 0), ("put", "x", 0, 0),
               ("put", "x", 3, 3), ("put", "x", 4, 0), ("put", "x", 0, 4), ("put", "x", 0), ("put", "x", 0, 0, 0),
               ("put", "x", True, 0), ("put", "x", 0, False), ("put", "x", -1, 0), ("put", "x", 0, -1),
               ("put", "x", "0", 0), ("put", "x", 0, None), ("put", "X", 0, 0), ("put", "a", 0, 0), ("put", 1, 0, 0),
               ("move", "a", 0), ("move", "a", 1), ("move", "a", 2), ("move", "a", 3), ("move", "x", 0), ("move", "a"),
               ("move", "a", True), ("move", "a", False), ("move", "a", -1), ("move", "a", [0]), ("move", "a", 0, 0),
               ("list", "a", 0), ("list", "a", 1), ("list", "a", 3), ("list", "x", 0), ("list", "a", True),
               ("list", "a"), ("list", ["a"], 1), ("swap", "a", 1), ("Out", "a"), (None, "a"), (["out"], "a"),
               (shelf, "a"), ["out", "a"], ["put", "x", 0, 0], ["move", "a", 0]]
    dicts = [{}, {"a": "b"}, {"a": "b", "b": "a"}, {"a": "b", "b": "a", "c": "z"}, {"a": "b", "b": "b", "c": "z"},
             {"a": "b", "b": "a", "c": "Z"}, {"a": "b", "b": "a", "c": None}, {"a": "b", "b": "a", "c": ["z"]},
             {"a": "b", "b": "a", "x": "z"}, {"a": "b", "b": "a", "c": "z", "d": "y"}, {"a": "b", "b": "a", 0: "z"},
             {"a": shelf, "b": "a", "c": "z"}, {"a": 1, "b": 2, "c": 3}, {("a", "b"): 1}, {None: [1, (2, {})]},
             {True: "a", 2: "b"}, {0: "a", 1: "b", 2: "c"}, {(): {}}]
    runs = [[("a", "b"), ("a", "b", "c")], [("a", "b", "c"), ("a", "b")], [("a", "b"), ("a", "b")], [("a", "b", "c")],
            [("b", "c")], [("a", "b"), ("b", "c")], [("b", "a")], [("a", "c")], [["a", "b"], ["a", "b", "c"]],
            (("a", "b"), ("a", "b", "c")), {("a", "b"): 1, ("a", "b", "c"): 1}, [("a", "b"), None], [("a", "b"), True],
            [("a", "b"), ("a", "b", "c"), ("b", "c")], [("a",)], [("a", "b"), shelf], [()], [[("a", "b")]],
            (("a", "b"), ("b", "c")), (("b", "c"), ("a", "b")), [("a", "b", "c", "d")], [("a", "b"), ("c",)]]
    trees = ["rising", "falling", "crossed", "book", "Rising", "+", "-", ("rising",), ["book"],
             ("falling", ["c", ("rising", ["a", "b"])]), ("falling", ("c", ("rising", ["a", "b"]))),
             ["falling", ["c", ("rising", ["a", "b"])]], ("falling", ["c", ("rising", ("a", "b"))]),
             ("rising", ["c", ("rising", ["a", "b"])]), ("falling", ["c", "a", "b"]), ("falling", []),
             ("heap", ["a", "b", "c"]), ("heap", ("a", "b", "c")), ["heap", ["a", "b", "c"]], ("heap", ["b", "a", "c"]),
             ("heap", ["a", ("heap", ["b", "c"])]), ("heap", ["a"]), ("heap", "abc"), ("heap", ["a", "b", "c", "d"]),
             ("crossed", [1, 3, 0, 2], ["a", "b", "c", "d"]), ("crossed", [True, 3, False, 2], ["a", "b", "c", "d"]),
             ("crossed", (1, 3, 0, 2), ["a", "b", "c", "d"]), ("crossed", [1, 0, 2], ["a", "b", "c"]),
             ("crossed", ["a", "b", "c"]), ("heap", [0, 1, 2], ["a", "b", "c"]),
             ("+", "a", "b", "c"), ("-", "c", ("+", "a", "b")), ["-", "c", ("+", "a", "b")],
             ("-", "c", ["+", "a", "b"]),
             ("-", ("+", "a", "b"), "c"), ("-", "c", "a", "b"), ("+", ("a", "b")), ("+", "a"), ("+",), ("", "a", "b"),
             ("-", ("c",), ("+", "a", "b")), (None, "c", ("+", "a", "b")), ("-", "c", ("+", "a", "b", "b"))]
    signs = [{"a": "+", "b": "+", "c": "-"}, {"a": "+", "b": "+", "c": "+"}, {"c": "-", "b": "-", "a": "-"},
             {"a": "+", "b": "+"}, {"a": "+", "b": "+", "c": None}, {"a": "+", "b": "+", "c": ["-"]},
             {"a": "+", "b": "+", "c": True}, {"a": "+", "b": "+", "d": "-"}, {"a": "+", "b": "+", "c": ""},
             {"a": "+", "b": "+", "c": "-", "d": "-"}, {"a": "+", "b": "+", ("c",): "-"}, ["+", "+", "-"]]
    prices = [{("a", "b"): 0}, {("a", "b"): 2, ("a", "b", "c"): 60, ("b", "c"): 0}, {("a", "b"): True},
              {("a", "b"): False}, {("a", "b"): -1}, {("a", "b"): "1"}, {("a", "b"): None}, {("a", "b"): [1]},
              {("b", "a"): 1}, {("a", "c"): 1}, {("a",): 1}, {"ab": 1}, {("a", "b", "c", "d"): 1}, {(): 1},
              {("a", "b"): 1, "a": 1}, {("a", "b"): 1, (("a", "b"),): 1}, {None: 1}, [(("a", "b"), 1)], {("a", 1): 1}]
    shelves = [[shelf, shelf], (shelf, shelf), [shelf, None], [shelf, [shelf]], {0: shelf}, [shelf, ["c", "a", "b"]],
               [[0], [1]], [0, True], [2, 3], [0, -1], (2, 3), [60, 0], ["1"], [1, None]]
    commands = [[("undo",)], [("redo",), ("undo",)], [("try", [])], [("try", [("undo",)])], [("try", None)], [("try",)],
                [("put", shelf)], [("put", "a")], [("put",)], [("take", 0)], [("take", True)],
                [("turn", 0, ("a", "b"))],
                [("turn", 0, ["a", "b"])], [("turn", 0)], [("wish", 0, shelf)], [("unwish", 1)], [("bar", ("a", "c"))],
                [("bar", ("a",))], [("meet", 0, 1, 2)], [("meet", 0, 1)], [("exchange", 0, shelf)], [("left", 0)],
                [("go", 0), ("go", None)], (("undo",),), [["undo"]], [("undo", 0)], [("swap", 0)], [(0, "put")],
                [(["put"], shelf)], [()], [("undo",), None]]
    more = runs + trees + signs + prices + shelves + LINES + commands
    own = [shelf, Shelf(["a"], ["a"]), errors.InvalidBook(), errors.InvalidShelf(shelf), errors.ShelfError(),
           errors.NothingToUndo(), [errors.InvalidRow(["a"])], (errors.Unlike("a"),), Hall(["a", "b", "c"]),
           [Hall(["a"])]]
    deep = [nested(lambda value: [value], 38), nested(lambda value: (value,), 38), nested(lambda value: {1: value}, 38)]
    return plain + texts + lists + tuples + changes + dicts + more + own + deep


def told_of(hall):
    """What the methods of a hall tell, and what they tell when it goes back to its beginning and on to its end."""
    def told_now(hall):
        return [[spot, hall.shelf(spot), hall.wish_of(spot), hall.needed(spot), hall.left(spot), hall.ways_left(spot),
                 hall.openings(spot), hall.turns(spot)] for spot in hall.spots()] + [
                     hall.barred(), hall.could_bar(), hall.total(), hall.log()]
    told = [told_now(hall)]
    for step, last in (("undo", errors.NothingToUndo), ("redo", errors.NothingToRedo)):
        twin = hall.copy()
        try:
            while True:
                getattr(twin, step)()
                told.append(told_now(twin))
        except last:
            pass
    return told


def same(one, other):
    """Whether two values are equal, and of like kinds down to the last item."""
    if type(one) is not type(other):
        return False
    if isinstance(one, (list, tuple)):
        return len(one) == len(other) and all(same(x, y) for x, y in zip(one, other))
    if isinstance(one, dict):
        return same([pair for pair in one.items()], [pair for pair in other.items()])
    if isinstance(one, Shelf):
        return same([one.catalogue(), one.row()], [other.catalogue(), other.row()])
    if isinstance(one, Hall):
        return same(told_of(one), told_of(other))
    if isinstance(one, errors.ShelfError):
        return same(vars(one), vars(other))
    return one == other


def bent_texts(text):
    """Texts that are one in all but one place: a sign changed, left out or put in, or a line."""
    found = [text[:at] + text[at + 1:] for at in range(len(text))]
    for sign in "ax 0179=-+\n\tA":
        found += [text[:at] + sign + text[at + 1:] for at in range(len(text))]
        found += [text[:at] + sign + text[at:] for at in range(len(text) + 1)]
    lines = text.split("\n")
    for at, line in enumerate(lines):
        rest = lines[:at] + lines[at + 1:]
        found += ["\n".join(rest), "\n".join(lines[:at] + [line, line] + lines[at + 1:])]
        found += ["\n".join(rest[:other] + [line] + rest[other:]) for other in range(len(lines))]
        others = (line + " ", " " + line, "  " + line, line[2:], line.replace(" ", "  "), "", line + " a")
        found += ["\n".join(lines[:at] + [other] + lines[at + 1:]) for other in others]
    return sorted(set(found) - {text})


def book_is_right(value):
    return type(value) is str and re.fullmatch("[a-z]{1,8}", value) is not None


def catalogue_is_right(value):
    if type(value) is not list or len(value) == 0 or not all(book_is_right(book) for book in value):
        return False
    return sorted(value) == sorted(set(value))


def books_are_right(books, least):
    def judge(value):
        if type(value) is not list or not all(type(book) is str and book in books for book in value):
            return False
        return len(value) >= least and sorted(value) == sorted(set(value))
    return judge


def is_change_by_form(value):
    if type(value) is not tuple or len(value) < 2 or not book_is_right(value[1]) or type(value[0]) is not str:
        return False
    kinds = [type(part) for part in value[2:]]
    return (value[0], kinds) in [("put", [int, int]), ("out", []), ("move", [int]), ("list", [int])] and \
        all(part >= 0 for part in value[2:])


# All changes of any_objects() that fit the shelf of the row c, a, b.
FITTING = [("out", "a"), ("put", "x", 0, 0), ("put", "x", 3, 3), ("move", "a", 0), ("move", "a", 2),
           ("list", "a", 1)]


def fits_cab(value):
    return any(same(value, change) for change in FITTING)


def are_changes_by_form(value):
    return type(value) is list and all(is_change_by_form(change) for change in value)


def is_one_of(things):
    return lambda value: any(same(value, thing) for thing in things)


def is_shelf(value):
    return type(value) is Shelf


def count_is_right(low, beyond):
    return lambda value: type(value) is int and low <= value < beyond


def runs_by_entries(shelf):
    """The runs found the other way about: neighbours of the catalogue that stand side by side on the row."""
    catalogue, row = shelf.catalogue(), shelf.row()
    found = []
    for first, last in itertools.combinations(range(len(catalogue)), 2):
        books = catalogue[first:last + 1]
        start = min(row.index(book) for book in books)
        if set(row[start:start + len(books)]) == set(books):
            found.append(tuple(books))
    return sorted(found)


def shelves_of(catalogue):
    return [Shelf(catalogue, list(row)) for row in itertools.permutations(catalogue)]


def some_shelves():
    """All shelves of up to five books, of catalogues in many orders, and some of twelve."""
    small = [["q"], ["b", "a"], ABC, DCBA, MIXED]
    twelve = [TWELVE, TWELVE[::-1], TWELVE[6:] + TWELVE[:6], TWELVE[1::2] + TWELVE[::2], TWELVE[3::-1] + TWELVE[4:]]
    return [shelf for books in small for shelf in shelves_of(books)] + [Shelf(TWELVE, row) for row in twelve]


def names_of_parameters(function):
    return list(inspect.signature(function).parameters)


class Arguments:
    """The arguments of a function: right ones, and for each the error of a wrong one and what is right.

    What is right is told by a judge, or is None for arguments for which no error is specified. The order is that
    in which the arguments are judged, as positions, if it is not that of the parameters.
    """

    def __init__(self, function, *rows, order=None):
        self.function = function
        self.order = list(range(len(rows))) if order is None else order
        self.names = names_of_parameters(function)
        self.right = [row[0] for row in rows]
        self.errors = [row[1] for row in rows]
        self.judges = [row[2] for row in rows]

    def wrong_ones(self, at):
        return [value for value in any_objects() if not self.judges[at](value)]

    def with_wrong(self, wrong):
        """The right arguments, some of them exchanged by a dictionary from positions to wrong ones."""
        return [wrong.get(at, value) for at, value in enumerate(self.right)]


def raised(function, args, more):
    """The error of the package that a call raises, None if none."""
    try:
        function(*args, **more)
    except errors.ShelfError as error:
        return error
    return None


def check_error(case, function, arguments, error, value):
    """Call by position and by name; each time just this error has to come, with the very object."""
    before = copy.deepcopy(arguments)
    named = dict(zip(names_of_parameters(function), arguments))
    for told in (raised(function, arguments, {}), raised(function, [], named)):
        shown = f"{function.__name__}{tuple(arguments)!r}: {told!r}"
        case.assertIs(type(told), error, shown)
        case.assertIs(told.value, value, shown)
    case.assertTrue(same(before, arguments), function.__name__)


def check_wrong_alone(case, told):
    for at, error in enumerate(told.errors):
        if error is not None:
            wrong = told.wrong_ones(at)
            case.assertGreater(len(wrong), 100, told.function.__name__)
            for value in wrong:
                check_error(case, told.function, told.with_wrong({at: value}), error, value)


def check_wrong_together(case, told):
    """A wrong argument comes ahead of all wrong ones behind it."""
    for step, at in enumerate(told.order[:-1]):
        if told.errors[at] is None:
            continue
        behind = [later for later in told.order[step + 1:] if told.errors[later] is not None]
        others = {later: told.wrong_ones(later) for later in behind}
        for turn, value in enumerate(told.wrong_ones(at)):
            for some in range(1, 2 ** len(behind)):
                chosen = [later for bit, later in enumerate(behind) if some >> bit & 1]
                wrong = {later: others[later][turn * 7 % len(others[later])] for later in chosen}
                wrong[at] = value
                check_error(case, told.function, told.with_wrong(wrong), told.errors[at], value)


class WrongArguments:
    """Two tests for a case whose field `told` lists the Arguments of its functions."""

    told = []

    def test_each_argument_alone(self):
        for told in self.told:
            with self.subTest(told.function.__name__):
                check_wrong_alone(self, told)

    def test_wrong_ones_together(self):
        for told in self.told:
            with self.subTest(told.function.__name__):
                check_wrong_together(self, told)
