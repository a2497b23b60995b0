"""The blocks of examples of the document, as they stand there."""

import unittest

SHELVES = """
from runturns.shelves import Shelf, changed, cut_to, entry_of, exchanged, flipped, mirrored, place_of, ranks, renamed, shelf_at, shelf_number, sorted_shelf
shelf = Shelf(["a", "b", "c"], ["c", "a", "b"])
[ranks(shelf), place_of(shelf, "a"), entry_of(shelf, "c"), shelf == Shelf(["a", "b", "c"], ["c", "b", "a"]), sorted_shelf(["b", "a"]).row()]
# [[2, 0, 1], 1, 2, False, ['b', 'a']]
[mirrored(shelf).row(), flipped(shelf).catalogue(), ranks(flipped(shelf)), exchanged(shelf).catalogue(), ranks(exchanged(shelf))]
# [['b', 'a', 'c'], ['c', 'b', 'a'], [0, 2, 1], ['c', 'a', 'b'], [1, 2, 0]]
more = changed(shelf, ("put", "x", 1, 3))
[more.catalogue(), more.row(), changed(more, ("move", "x", 0)).row(), changed(more, ("list", "x", 3)).catalogue(), changed(more, ("out", "x")) == shelf]
# [['a', 'x', 'b', 'c'], ['c', 'a', 'b', 'x'], ['x', 'c', 'a', 'b'], ['a', 'b', 'c', 'x'], True]
[renamed(shelf, {"a": "b", "b": "a", "c": "z"}).row(), cut_to(shelf, ["b", "c"]).row(), shelf_number(shelf), shelf_at(["a", "b", "c"], 3).row()]
# [['z', 'b', 'a'], ['c', 'b'], 4, ['b', 'c', 'a']]
"""

RUNS = """
from runturns.runs import all_runs, is_run, least_run, meet_of, overlap, overlapping, rests_of, run_at, run_entry, run_place, run_turned, union_of
from runturns.shelves import Shelf
abc, abcd = ["a", "b", "c"], ["a", "b", "c", "d"]
cab, bacd, crossed = Shelf(abc, ["c", "a", "b"]), Shelf(abcd, ["b", "a", "c", "d"]), Shelf(abcd, ["b", "d", "a", "c"])
[all_runs(cab), all_runs(crossed), is_run(cab, ("a", "b")), is_run(cab, ("b", "a")), is_run(cab, ["a", "b"]), is_run(cab, ("a", "c"))]
# [[('a', 'b'), ('a', 'b', 'c')], [('a', 'b', 'c', 'd')], True, False, False, False]
[all_runs(bacd), run_place(bacd, ("c", "d")), run_entry(cab, ("a", "b")), run_at(bacd, 0, 3), run_at(bacd, 1, 2)]
# [[('a', 'b'), ('a', 'b', 'c'), ('a', 'b', 'c', 'd'), ('c', 'd')], (2, 2), 0, ('a', 'b', 'c'), None]
[run_turned(bacd, ("a", "b", "c")).row(), overlap(bacd, ("a", "b", "c"), ("c", "d")), overlapping(bacd, ("c", "d")), overlap(bacd, ("a", "b"), ("c", "d"))]
# [['c', 'a', 'b', 'd'], True, [('a', 'b', 'c')], False]
[meet_of(bacd, ("a", "b", "c"), ("c", "d")), union_of(bacd, ("a", "b", "c"), ("c", "d")), rests_of(bacd, ("a", "b", "c"), ("c", "d"))]
# [('c',), ('a', 'b', 'c', 'd'), [('a', 'b'), ('d',)]]
[least_run(bacd, ["d", "a"]), least_run(bacd, ["c", "b"]), all_runs(run_turned(bacd, ("a", "b")))]
# [('a', 'b', 'c', 'd'), ('a', 'b', 'c'), [('a', 'b'), ('a', 'b', 'c'), ('a', 'b', 'c', 'd'), ('b', 'c'), ('b', 'c', 'd'), ('c', 'd')]]
"""


def told_by(block):
    """Tuples of a line, the representation of what it gives, and the one that stands below it."""
    names, told, rows = {}, [], block.strip().split("\n")
    for row, below in zip(rows, rows[1:] + [""]):
        if below.startswith("# "):
            told.append((row, repr(eval(row, names)), below[2:]))
        elif not row.startswith("# "):
            exec(row, names)
    return told


class Examples(unittest.TestCase):
    def check(self, block, many):
        told = told_by(block)
        self.assertEqual(len(told), many)
        for row, given, wanted in told:
            self.assertEqual(given, wanted, row)

    def test_shelves(self):
        self.check(SHELVES, 4)

    def test_runs(self):
        self.check(RUNS, 5)
