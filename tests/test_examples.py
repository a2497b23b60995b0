"""The blocks of examples of the document, as they stand there."""

import unittest

SHELVES = """
from runturns.shelves import Shelf, changed, cut_to, entry_of, exchanged, flipped, mirrored, place_of, ranks, renamed, shelf_at, shelf_number, sorted_shelf
shelf = Shelf(["a", "b", "c"], ["c", "a", "b"])
[ranks(shelf), place_of(shelf, "a"), entry_of(shelf, "c"), shelf == Shelf(["a", "b", "c"], ["c", "b", "a"]), sorted_shelf(["b", "a"]).row()]
# [[2, 0, 1], 1, 2, False, ['b', 'a']]
[mirrored(shelf).row(), flipped(shelf).catalogue(), ranks(flipped(shelf)), exchanged(shelf).catalogue(), ranks(exchanged(shelf))]
# [['b', 'a', 'c'], ['c', 'b', 'a'], [0, 2, 1], ['c', 'a', 'b'], [1, 2, 0]]
more = changed(shelf, ("put", "x", 1, 3))
[more.catalogue(), more.row(), changed(more, ("move", "x", 0)).row(), changed(more, ("list", "x", 3)).catalogue(), changed(more, ("out", "x")) == shelf]
# [['a', 'x', 'b', 'c'], ['c', 'a', 'b', 'x'], ['x', 'c', 'a', 'b'], ['a', 'b', 'c', 'x'], True]
[renamed(shelf, {"a": "b", "b": "a", "c": "z"}).row(), cut_to(shelf, ["b", "c"]).row(), shelf_number(shelf), shelf_at(["a", "b", "c"], 3).row()]
# [['z', 'b', 'a'], ['c', 'b'], 4, ['b', 'c', 'a']]
"""

RUNS = """
from runturns.runs import all_runs, is_run, least_run, meet_of, overlap, overlapping, rests_of, run_at, run_entry, run_place, run_turned, union_of
from runturns.shelves import Shelf
abc, abcd = ["a", "b", "c"], ["a", "b", "c", "d"]
cab, bacd, crossed = Shelf(abc, ["c", "a", "b"]), Shelf(abcd, ["b", "a", "c", "d"]), Shelf(abcd, ["b", "d", "a", "c"])
[all_runs(cab), all_runs(crossed), is_run(cab, ("a", "b")), is_run(cab, ("b", "a")), is_run(cab, ["a", "b"]), is_run(cab, ("a", "c"))]
# [[('a', 'b'), ('a', 'b', 'c')], [('a', 'b', 'c', 'd')], True, False, False, False]
[all_runs(bacd), run_place(bacd, ("c", "d")), run_entry(cab, ("a", "b")), run_at(bacd, 0, 3), run_at(bacd, 1, 2)]
# [[('a', 'b'), ('a', 'b', 'c'), ('a', 'b', 'c', 'd'), ('c', 'd')], (2, 2), 0, ('a', 'b', 'c'), None]
[run_turned(bacd, ("a", "b", "c")).row(), overlap(bacd, ("a", "b", "c"), ("c", "d")), overlapping(bacd, ("c", "d")), overlap(bacd, ("a", "b"), ("c", "d"))]
# [['c', 'a', 'b', 'd'], True, [('a', 'b', 'c')], False]
[meet_of(bacd, ("a", "b", "c"), ("c", "d")), union_of(bacd, ("a", "b", "c"), ("c", "d")), rests_of(bacd, ("a", "b", "c"), ("c", "d"))]
# [('c',), ('a', 'b', 'c', 'd'), [('a', 'b'), ('d',)]]
[least_run(bacd, ["d", "a"]), least_run(bacd, ["c", "b"]), all_runs(run_turned(bacd, ("a", "b")))]
# [('a', 'b', 'c', 'd'), ('a', 'b', 'c'), [('a', 'b'), ('a', 'b', 'c'), ('a', 'b', 'c', 'd'), ('b', 'c'), ('b', 'c', 'd'), ('c', 'd')]]
"""

KNOTS = """
from runturns.knots import depth, is_tree, kind_of, knot_around, knots, knots_gained, knots_lost, knots_of_kind, least_knot, part_numbers, parts_of, runs_of_knot, same_knots, sign_of, tree_of
from runturns.shelves import Shelf
four = ["a", "b", "c", "d"]
mixed, wild, sorted_one = Shelf(four, ["c", "a", "b", "d"]), Shelf(four, ["b", "d", "a", "c"]), Shelf(four, ["a", "b", "c", "d"])
knots(mixed)
# [('a',), ('a', 'b'), ('a', 'b', 'c'), ('a', 'b', 'c', 'd'), ('b',), ('c',), ('d',)]
[tree_of(mixed), tree_of(wild), depth(mixed), depth(wild)]
# [('rising', [('falling', ['c', ('rising', ['a', 'b'])]), 'd']), ('crossed', ['b', 'd', 'a', 'c']), 3, 1]
[parts_of(mixed, ("a", "b", "c")), knot_around(mixed, ("a", "b")), part_numbers(wild, ("a", "b", "c", "d")), sign_of(wild, ("a", "b", "c", "d")), kind_of(mixed, ("d",)), sign_of(mixed, ("d",))]
# [[('c',), ('a', 'b')], ('a', 'b', 'c'), [1, 3, 0, 2], '+', 'book', None]
[runs_of_knot(sorted_one, ("a", "b", "c", "d")), runs_of_knot(mixed, ("a", "b", "c", "d")), runs_of_knot(mixed, ("c",))]
# [[('a', 'b'), ('a', 'b', 'c'), ('a', 'b', 'c', 'd'), ('b', 'c'), ('b', 'c', 'd'), ('c', 'd')], [('a', 'b', 'c', 'd')], []]
[least_knot(sorted_one, ["a", "b"]), least_knot(mixed, ["a", "b"]), knots_lost(mixed, ("a", "b")), knots_gained(mixed, ("a", "b")), knots_gained(sorted_one, ("b", "c"))]
# [('a', 'b', 'c', 'd'), ('a', 'b'), [('a', 'b')], [], [('b', 'c')]]
[same_knots(mixed, wild), knots_of_kind(mixed, "falling"), knots_of_kind(wild, "crossed")]
# [False, [('a', 'b', 'c')], [('a', 'b', 'c', 'd')]]
"""

HOMES = """
from runturns.homes import are_joined, core_numbers, core_of, core_parts, heaps_of, home_of, is_core, is_parting, parting, shelf_with, awry_runs
from runturns.shelves import Shelf
abc, abcd = ["a", "b", "c"], ["a", "b", "c", "d"]
[awry_runs(Shelf(abc, row)) for row in (["b", "a", "c"], ["c", "a", "b"], ["c", "b", "a"], abc)]
# [[('a', 'b')], [('a', 'b'), ('a', 'b', 'c')], [('a', 'b', 'c')], []]
[home_of(Shelf(abc, ["c", "a", "b"])) == Shelf(abc, abc), core_of(Shelf(abc, ["b", "c", "a"])), heaps_of(Shelf(abc, abc))]
# [True, ('heap', ['a', 'b', 'c']), [[('a',), ('b',), ('c',)]]]
one, other = Shelf(abcd, ["b", "d", "a", "c"]), Shelf(abcd, ["c", "a", "d", "b"])
[awry_runs(one), awry_runs(other), home_of(other) == one, core_numbers(other, ("a", "b", "c", "d")), core_of(other)]
# [[], [('a', 'b', 'c', 'd')], True, [1, 3, 0, 2], ('crossed', [1, 3, 0, 2], ['a', 'b', 'c', 'd'])]
[are_joined(one, Shelf(abcd, abcd)), parting(one, Shelf(abcd, abcd)), is_parting(one, other, ("a", "b", "c", "d")), are_joined(one, other)]
# [False, ('a', 'b', 'c', 'd'), False, True]
five = Shelf(["a", "b", "c", "d", "e"], ["c", "b", "e", "a", "d"])
[core_parts(five, ("a", "b", "c", "d", "e")), heaps_of(five), awry_runs(five)]
# [[('a',), ('b', 'c'), ('d',), ('e',)], [[('b',), ('c',)]], [('b', 'c')]]
[is_core(abc, ("heap", ["a", ("heap", ["b", "c"])])), is_core(abc, ("heap", ["a", "b", "c"])), is_core(["a", "b"], ("crossed", [0, 1], ["a", "b"])), shelf_with(abcd, ("crossed", [1, 3, 0, 2], ["a", "b", "c", "d"])) == one]
# [False, True, False, True]
"""

LOTS = """
from runturns.lots import barred_by, clash, coming_runs, either, faces, filled, is_clash, is_filled, is_full, is_lot, joined_with_faces, met, shelf_of, turnable_runs, turned_over
from runturns.shelves import Shelf
abc = ["a", "b", "c"]
home, left, right, last = Shelf(abc, abc), Shelf(abc, ["b", "a", "c"]), Shelf(abc, ["a", "c", "b"]), Shelf(abc, ["c", "a", "b"])
[turnable_runs(left), is_lot(home, [("a", "b"), ("a", "b", "c")]), is_lot(home, [("a", "b"), ("b", "c")]), is_lot(home, [])]
# [[('a', 'b'), ('a', 'b', 'c'), ('b', 'c')], True, False, True]
[shelf_of(left, [("a", "b"), ("a", "b", "c")]) == last, shelf_of(last, [("b", "c")]) == right, shelf_of(right, []) == home]
# [True, True, True]
[clash(home, [("a", "b"), ("a", "b", "c"), ("b", "c")]), clash(home, [("a", "b")]), coming_runs(left), coming_runs(last), is_full(last), is_full(left)]
# [(('a', 'b'), ('b', 'c')), None, [('a', 'b', 'c')], [], True, False]
[met(left, last) == left, either(left, right), either(left, home) == left, faces(last), faces(left)]
# [True, None, True, {'a': '+', 'b': '+', 'c': '-'}, {'a': '-', 'b': '-', 'c': '+'}]
[barred_by(left, ("b", "c")), barred_by(left, ("a", "b")), is_filled(home, last), is_filled(right, last), turned_over(last, [("a", "b"), ("a", "b", "c")])]
# [[('a', 'b')], [], True, False, ['c']]
ups, downs = {"a": "+", "b": "+", "c": "+"}, {"a": "+", "b": "+", "c": "-"}
[joined_with_faces(last, downs, home, ups), joined_with_faces(last, ups, home, ups), joined_with_faces(last, ups, last, ups)]
# [True, False, True]
"""

WAYS = """
from runturns.shelves import Shelf
from runturns.ways import ahead_of, first_runs, differing_runs, even, fewest_turns, is_shortest_way, is_way, led, many_ways, odd_runs, shortest_way, way_at, way_place
abc = ["a", "b", "c"]
home, left, right, last = Shelf(abc, ["a", "b", "c"]), Shelf(abc, ["b", "a", "c"]), Shelf(abc, ["a", "c", "b"]), Shelf(abc, ["c", "a", "b"])
[led(left, [("a", "b"), ("b", "c")]) == right, is_way(left, right, [("b", "c")]), differing_runs(left, right), fewest_turns(left, right), fewest_turns(left, left)]
# [True, False, [('a', 'b'), ('b', 'c')], 2, 0]
[shortest_way(left, right), ahead_of(left, right), many_ways(left, right), many_ways(home, last), differing_runs(left, last)]
# [[('a', 'b'), ('b', 'c')], [(('a', 'b'), ('b', 'c'))], 1, 2, [('a', 'b', 'c')]]
[way_at(home, last, 0), way_at(home, last, 1), way_place(home, last, [("a", "b", "c"), ("a", "b")]), first_runs(home, last), even(home, last)]
# [[('a', 'b'), ('a', 'b', 'c')], [('a', 'b', 'c'), ('a', 'b')], 1, [('a', 'b'), ('a', 'b', 'c')], True]
[odd_runs(home, [("a", "b"), ("a", "b", "c"), ("a", "b")]), is_way(home, Shelf(abc, ["c", "b", "a"]), [("a", "b"), ("a", "b", "c"), ("a", "b")])]
# [[('a', 'b', 'c')], True]
crossed = Shelf(["a", "b", "c", "d"], ["b", "d", "a", "c"])
[fewest_turns(crossed, Shelf(["a", "b", "c", "d"], ["c", "a", "d", "b"])), fewest_turns(crossed, Shelf(["a", "b", "c", "d"], ["a", "b", "c", "d"])), is_shortest_way(crossed, crossed, [])]
# [1, None, True]
"""

PRICES = """
from runturns.prices import are_cheapest, cheapest_turns, farthest_price, is_farthest_at_price, is_meeting_shelf, least_price, many_at_price, meeting_price, meeting_shelf, price_of, prices_by_size
from runturns.shelves import Shelf
abc = ["a", "b", "c"]
home, first, last = Shelf(abc, ["a", "b", "c"]), Shelf(abc, ["b", "a", "c"]), Shelf(abc, ["a", "c", "b"])
both, back = Shelf(abc, ["c", "a", "b"]), Shelf(abc, ["c", "b", "a"])
dear = {("a", "b"): 5, ("a", "b", "c"): 2}
[least_price(home, both, dear), least_price(first, back, dear), least_price(first, last, dear), least_price(home, home, dear), price_of(home, [("a", "b"), ("a", "b")], dear)]
# [7, 7, 6, 0, 10]
[cheapest_turns(first, last, {}), are_cheapest(first, last, {}, [("b", "c"), ("a", "b")]), are_cheapest(home, first, {("a", "b", "c"): 0}, [("a", "b", "c"), ("a", "b"), ("a", "b", "c")])]
# [[('a', 'b'), ('b', 'c')], False, True]
[many_at_price(home, {}, 3), many_at_price(both, {}, 3), many_at_price(both, {("a", "b"): 0}, 2), farthest_price(home, {("a", "b"): 5}), farthest_price(first, {("a", "b"): 5}), is_farthest_at_price(home, {("a", "b"): 5}, both)]
# [[1, 3, 2, 0], [1, 3, 2, 0], [2, 3, 1], 6, 7, True]
[meeting_price([first, both, last], dear), meeting_shelf([first, both, last], dear) == first, is_meeting_shelf([first, last], {("b", "c"): 0}, both), meeting_price([first, last], {("b", "c"): 0})]
# [8, True, False, 1]
prices_by_size(abc, [4, 1])
# {('a', 'b'): 4, ('a', 'b', 'c'): 1, ('b', 'c'): 4}
"""

ARMS = """
from runturns.arms import are_turns_without, barred_by_size, barring_runs, joined_without, least_arms, many_without, parts_without, turns_without
from runturns.shelves import Shelf
abc = ["a", "b", "c"]
home, first, both = Shelf(abc, ["a", "b", "c"]), Shelf(abc, ["b", "a", "c"]), Shelf(abc, ["c", "a", "b"])
bar = [("a", "b")]
[joined_without(first, both, bar), joined_without(home, first, bar), barring_runs(home, first, bar), turns_without(first, both, bar), turns_without(home, both, bar)]
# [True, False, [('a', 'b')], [('a', 'b', 'c')], None]
[many_without(home, bar), many_without(first, bar), parts_without(home, bar), least_arms(home, both), least_arms(home, first), least_arms(home, home)]
# [4, 2, 2, 3, 2, 0]
[barred_by_size(abc, 2), parts_without(home, barred_by_size(abc, 2)), are_turns_without(home, both, [], [("a", "b"), ("a", "b", "c")]), are_turns_without(home, both, [], [("a", "b", "c"), ("a", "b")])]
# [[('a', 'b', 'c')], 2, True, True]
"""

SORTING = """
from runturns.shelves import Shelf
from runturns.sorting import always_out, bad_four_in, bad_fours, can_be_sorted, fewest_out, is_books_out, is_nest, least_outs, nest, never_out, sortable_runs, sorting_turns, sorts_without
abc = ["a", "b", "c"]
[sorting_turns(Shelf(abc, ["b", "a", "c"])), sorting_turns(Shelf(abc, ["c", "b", "a"])), sorting_turns(Shelf(abc, ["c", "a", "b"]))]
# [1, 1, 2]
[nest(Shelf(abc, ["c", "a", "b"])), nest(Shelf(abc, abc)), is_nest(Shelf(abc, abc), ("+", "a", ("+", "b", "c"))), is_nest(Shelf(abc, abc), ("+", "a", ("-", "b", "c")))]
# [('-', 'c', ('+', 'a', 'b')), ('+', 'a', 'b', 'c'), True, False]
crossed = Shelf(["a", "b", "c", "d"], ["b", "d", "a", "c"])
[can_be_sorted(crossed), sorting_turns(crossed), bad_fours(crossed), nest(crossed), least_outs(crossed), sortable_runs(crossed)]
# [False, None, [('b', 'd', 'a', 'c')], None, [['a'], ['b'], ['c'], ['d']], []]
five = Shelf(["a", "b", "c", "d", "e"], ["c", "e", "a", "b", "d"])
[bad_fours(five), least_outs(five), fewest_out(five), is_books_out(five, ["d"]), is_books_out(five, ["a", "b"]), sortable_runs(five)]
# [[('c', 'e', 'a', 'd'), ('c', 'e', 'b', 'd')], [['a', 'b'], ['c'], ['d'], ['e']], 1, True, False, [('a', 'b')]]
[sorts_without(five, ["a"]), sorts_without(five, ["a", "b"]), always_out(five), never_out(five), never_out(Shelf(abc, abc))]
# [False, True, [], [], ['a', 'b', 'c']]
bad_four_in(crossed, ("a", "b", "c", "d"))
# ('b', 'd', 'a', 'c')
"""

NUMBERS = """
from runturns.numbers import class_count, class_place, class_shelf, class_size, classes_by_size, crossed_count, is_farthest_pair, most_turns, sorted_by_turns, sorted_count, turns_from_home, unsorted_least
from runturns.shelves import Shelf
abc = ["a", "b", "c"]
low, high = Shelf(abc, abc), Shelf(abc, ["c", "b", "a"])
[class_size(low), turns_from_home(high), most_turns(low), class_place(high), class_shelf(high, 1) == Shelf(abc, ["a", "c", "b"])]
# [6, [1, 3, 2], 3, 5, True]
[is_farthest_pair(low, (Shelf(abc, ["b", "a", "c"]), Shelf(abc, ["c", "a", "b"]))), is_farthest_pair(low, (Shelf(abc, ["b", "a", "c"]), Shelf(abc, ["b", "c", "a"])))]
# [False, True]
five = Shelf(["a", "b", "c", "d", "e"], ["c", "e", "a", "b", "d"])
[class_size(five), turns_from_home(five), most_turns(five)]
# [4, [1, 2, 1], 2]
[[class_count(size) for size in [1, 2, 3, 4, 5, 6, 7]], classes_by_size(5), classes_by_size(6)]
# [[1, 1, 1, 2, 10, 66, 498], {2: 3, 4: 6, 90: 1}, {2: 23, 4: 21, 8: 14, 12: 7, 394: 1}]
[[crossed_count(size) for size in [1, 2, 3, 4, 5, 6, 7]], [sorted_count(size) for size in [1, 2, 3, 4, 5]], sorted_by_turns(4), unsorted_least(6)]
# [[0, 0, 0, 2, 6, 46, 338], [1, 2, 6, 22, 90], [1, 6, 10, 5], 2]
"""

BETWEEN = """
from runturns.shelves import Shelf
from runturns.between import busiest_books, day_plan, fewest_days, is_between, is_day_plan, many_between, middle, nearest_with, nearest_without, parting_shelves, shelves_between, sum_of_ways
abc = ["a", "b", "c"]
home, left, right, all_turned = [Shelf(abc, row) for row in (["a", "b", "c"], ["b", "a", "c"], ["a", "c", "b"], ["c", "b", "a"])]
[is_between(left, right, home), is_between(left, right, all_turned), many_between(left, right), [shelf.row() for shelf in shelves_between(left, right)]]
# [True, False, 3, [['a', 'b', 'c'], ['a', 'c', 'b'], ['b', 'a', 'c']]]
middle(left, right, all_turned) == home
# True
[nearest_with(left, ("b", "c")) == right, nearest_without(left, ("a", "b")) == home, nearest_with(left, ("a", "c"))]
# [True, True, None]
[parting_shelves(home, ("a", "b")), parting_shelves(home, ("a", "c")), sum_of_ways(home), fewest_days(left, right), busiest_books(left, right)]
# [(2, 4), (0, 6), 7, 2, ['b']]
abcd = ["a", "b", "c", "d"]
[fewest_days(Shelf(abcd, ["b", "a", "d", "c"]), Shelf(abcd, abcd)), day_plan(Shelf(abcd, ["b", "a", "d", "c"]), Shelf(abcd, abcd)), is_day_plan(left, right, [[("b", "c")], [("a", "b")]])]
# [1, [[('a', 'b'), ('c', 'd')]], False]
"""

CATALOGUES = """
from runturns.shelves import Shelf
from runturns.catalogues import alike_for_all, common_distance, common_home, common_joined, common_knots, common_runs, common_shelf, common_awry, common_way
from runturns.catalogues import first_parting, is_common_way, is_parting_run, least_beside, let_lots, needless, parting_lots, parting_run
abc, cab = ["a", "b", "c"], [["b", "c", "a"]]
bac, far, plain = Shelf(abc, ["b", "a", "c"]), Shelf(abc, ["c", "a", "b"]), Shelf(abc, ["a", "b", "c"])
[let_lots(abc, []), let_lots(abc, cab), common_runs(bac, cab), common_runs(plain, cab)]
# [[('a', 'b'), ('a', 'b', 'c'), ('b', 'c')], [('a', 'b', 'c'), ('b', 'c')], [('a', 'b', 'c')], [('a', 'b', 'c'), ('b', 'c')]]
[common_knots(bac, cab), common_knots(plain, cab), common_awry(bac, cab), common_awry(far, cab)]
# [{('a', 'b', 'c'): ('crossed', '+')}, {('a', 'b', 'c'): ('straight', '+'), ('b', 'c'): ('straight', '+')}, [], [('a', 'b', 'c')]]
[common_joined(bac, far, cab), common_distance(bac, far, cab), common_way(bac, far, cab), is_common_way(bac, far, cab, [("a", "b"), ("b", "c")]), common_home(far, cab) == bac]
# [True, 1, [('a', 'b', 'c')], False, True]
[common_joined(bac, plain, cab), common_joined(bac, plain, []), first_parting(bac, plain, cab), parting_lots(bac, plain, cab), common_distance(bac, plain, [])]
# [False, True, 1, [[0]], 1]
[needless(abc, [["c", "b", "a"], ["b", "c", "a"]]), least_beside(abc, [["c", "b", "a"], ["b", "c", "a"]]), alike_for_all(abc, [], [["c", "b", "a"]]), alike_for_all(abc, [], cab)]
# [[0], [[1]], True, False]
[common_shelf(bac, cab, [("a", "b", "c")]) == far, common_shelf(bac, cab, [("b", "c")]), parting_run(abc, [], [["c", "b", "a"]]), is_parting_run(abc, [], cab, (bac, ("a", "b")))]
# [True, None, None, True]
"""

CHANGES = """
from runturns.changes import best_places, joined_places, joining_lots, kept_runs, lessened, lost_runs, lot_without, meeting_changes, new_runs, parting_changes, put_for, rest_runs, run_spread, sorting_entries, turns_at, turns_listed
from runturns.shelves import Shelf
four, three = ["a", "b", "c", "d"], ["a", "b", "c"]
mixed, wild, low, high = Shelf(four, ["c", "a", "b", "d"]), Shelf(four, ["b", "d", "a", "c"]), Shelf(three, ["b", "a", "c"]), Shelf(three, ["a", "c", "b"])
[kept_runs(mixed, ("out", "b")), lost_runs(mixed, ("out", "b")), new_runs(wild, ("out", "b")), new_runs(low, ("put", "x", 3, 3))]
# [[('a', 'b', 'c'), ('a', 'b', 'c', 'd')], [('a', 'b')], [('a', 'c')], [('c', 'x')]]
[rest_runs(wild, "a"), rest_runs(wild, "b"), lot_without(wild, "b"), rest_runs(mixed, "a"), lot_without(mixed, "a")]
# [[('c', 'd')], [('a', 'c'), ('a', 'c', 'd')], [('a', 'c'), ('a', 'c', 'd')], [], [('b', 'c')]]
[turns_at(low, "x", 3), best_places(low, "x", 3), joined_places(low, "x", 3), turns_listed(mixed, "c"), sorting_entries(wild, "b")]
# [[3, 0, 2, 1], [1], [[0, 2, 3], [1]], [0, 1, 2, 2], [0, 2, 3]]
[joining_lots(wild, Shelf(four, four)), lessened(low, high, "a"), lessened(low, high, "b"), parting_changes(low, high, [("put", "x", 3, 1)]), meeting_changes(wild, mixed, [("out", "a"), ("out", "b")])]
# [[['a'], ['b'], ['c'], ['d']], 1, 2, [[0]], [[0], [1]]]
[put_for(Shelf(["a", "b"], ["b", "a"]), "a", Shelf(["c", "d"], ["d", "c"])).row(), run_spread(("a", "b"), "a", Shelf(["c", "d"], ["d", "c"]))]
# [['b', 'd', 'c'], ('c', 'd', 'b')]
"""

HALL = """
from runturns.shelves import Shelf
from runturns.hall import Hall, replayed
abc = ["a", "b", "c"]
bac, acb, cab, plain = Shelf(abc, ["b", "a", "c"]), Shelf(abc, ["a", "c", "b"]), Shelf(abc, ["c", "a", "b"]), Shelf(abc, abc)
hall = Hall(abc)
[hall.put(bac), hall.wish(0, acb), hall.needed(0), hall.left(0), hall.ways_left(0), hall.openings(0), hall.could_bar()]
# [0, None, [('a', 'b'), ('b', 'c')], 2, 1, [('a', 'b')], [('a', 'b', 'c')]]
[hall.bar(("a", "b", "c")), hall.turns(0), hall.go(0), hall.shelf(0) == plain, hall.left(0), hall.go(0), hall.shelf(0) == acb, hall.total()]
# [None, [('a', 'b')], ('a', 'b'), True, 1, ('b', 'c'), True, 0]
[hall.undo(), hall.shelf(0) == plain, hall.barred(), hall.put(cab), hall.wish_of(1), hall.unwish(0), hall.put(bac), hall.meet(0, 1, 2) == bac]
# [None, True, [('a', 'b', 'c')], 1, None, None, 2, True]
[len(hall.log()), replayed(Hall(abc), hall.log()).shelf(0) == bac, hall.spots()]
# [8, True, [0, 1, 2]]
"""

SCRIPTS = r"""
from runturns.hall import Hall
from runturns.scripts import end_of, play, read_script, script_text, shortened
from runturns.shelves import Shelf
abc = ["a", "b", "c"]
bac, acb = Shelf(abc, ["b", "a", "c"]), Shelf(abc, ["a", "c", "b"])
day = [("put", bac), ("wish", 0, acb), ("left", 0), ("turn", 0, ("b", "c")), ("go", 0), ("bar", ("a", "b")), ("try", [("go", 0), ("undo",)]), ("openings", 0)]
play(Hall(abc), day)
# [('put', 0), ('done',), ('left', 2), ('refused', 'InvalidRun'), ('gone', ('a', 'b')), ('done',), ('tried', [('gone', ('b', 'c')), ('done',)]), ('openings', [('b', 'c')])]
[end_of(abc, day) == ({0: (Shelf(abc, abc), acb)}, [("a", "b")]), read_script(script_text(day)) == day]
# [True, True]
script_text([("turn", 0, ("a", "b")), ("try", [("bar", ("a", "b", "c"))]), ("put", bac)])
# 'turn 0 a b\ntry\n  bar a b c\nend\nput\n  a b c\n  b a c\nend'
shortened(abc, [("put", bac), ("left", 0), ("undo",), ("redo",)]) == [("put", bac), ("redo",)]
# True
"""

PAPERS = r"""
from runturns.papers import change_text, prices_text, read_change, read_prices, read_shelf, read_shelves, read_turns, shelf_text, shelves_text, turns_text
from runturns.shelves import Shelf
shelf, one = Shelf(["a", "b", "c"], ["c", "a", "b"]), Shelf(["z"], ["z"])
[shelf_text(shelf), read_shelf("z\nz") == one, shelves_text([one, one]), read_shelves("")]
# ['a b c\nc a b', True, 'z\nz\n\nz\nz', []]
[turns_text([("b", "a"), ("a", "b", "c")]), read_turns("a b"), prices_text({("b", "c"): 10, ("a", "b"): 0}), read_prices("a b = 7")]
# ['b a\na b c', [('a', 'b')], 'a b = 0\nb c = 10', {('a', 'b'): 7}]
[change_text(("put", "x", 1, 3)), read_change("out x"), read_change("list a 0")]
# ['put x 1 3', ('out', 'x'), ('list', 'a', 0)]
"""


def told_by(block):
    """Tuples of a line, the representation of what it gives, and the one that stands below it."""
    names, told, rows = {}, [], block.strip().split("\n")
    for row, below in zip(rows, rows[1:] + [""]):
        if below.startswith("# "):
            told.append((row, repr(eval(row, names)), below[2:]))
        elif not row.startswith("# "):
            exec(row, names)
    return told


class Examples(unittest.TestCase):
    def check(self, block, many):
        told = told_by(block)
        self.assertEqual(len(told), many)
        for row, given, wanted in told:
            self.assertEqual(given, wanted, row)

    def test_shelves(self):
        self.check(SHELVES, 4)

    def test_runs(self):
        self.check(RUNS, 5)

    def test_knots(self):
        self.check(KNOTS, 6)

    def test_homes(self):
        self.check(HOMES, 6)

    def test_lots(self):
        self.check(LOTS, 6)

    def test_ways(self):
        self.check(WAYS, 5)

    def test_prices(self):
        self.check(PRICES, 5)

    def test_arms(self):
        self.check(ARMS, 3)

    def test_sorting(self):
        self.check(SORTING, 6)

    def test_numbers(self):
        self.check(NUMBERS, 5)

    def test_between(self):
        self.check(BETWEEN, 5)

    def test_catalogues(self):
        self.check(CATALOGUES, 6)

    def test_changes(self):
        self.check(CHANGES, 5)

    def test_hall(self):
        self.check(HALL, 4)

    def test_scripts(self):
        self.check(SCRIPTS, 4)

    def test_papers(self):
        self.check(PAPERS, 3)
