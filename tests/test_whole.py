"""The whole program: what one shelf is told in one module fits what the others tell, whoever made the shelf."""

import copy
import random
import unittest

from runturns import arms, between, catalogues, changes, homes, knots, lots, numbers, papers, prices, runs, scripts
from runturns import shelves, sorting, ways
from runturns.hall import Hall, replayed
from runturns.shelves import Shelf
from tests.calls import MADE_ELSEWHERE, spoil
from tests.helpers import same
from tests.slow import drawn_shelves, neighbours, shelf_of_ranks, shelves_of_twelve, shelves_to_four


def some_shelves():
    return shelves_to_four()[::3] + drawn_shelves(127, (5, 6, 7, 9, 12), 6) + shelves_of_twelve()


def some_pairs():
    """Two shelves of one catalogue each, joined ones and others, equal ones too."""
    drawn = random.Random(131)
    for shelf in some_shelves():
        size, reached = len(shelf.row()), shelf
        for _ in range(6):
            named = runs.all_runs(reached)
            reached = runs.run_turned(reached, drawn.choice(named)) if named else reached
        yield shelf, reached
        yield shelf, Shelf(shelf.catalogue(), shelf.row())
        yield shelf, homes.home_of(shelf)
        yield shelf, shelf_of_ranks(shelf.catalogue(), drawn.sample(range(size), size))


class OneShelf(unittest.TestCase):
    def test_runs_awry_and_the_home(self):
        for shelf in some_shelves():
            awry, home = homes.awry_runs(shelf), homes.home_of(shelf)
            self.assertEqual(sorted(awry + lots.coming_runs(shelf)), runs.all_runs(shelf))
            self.assertEqual([run for run in awry if run not in lots.turnable_runs(shelf)], [])
            self.assertIs(lots.is_lot(shelf, awry), True)
            self.assertEqual([lots.shelf_of(home, awry), ways.led(home, awry), ways.led(shelf, awry)],
                             [shelf, shelf, home])
            self.assertEqual([homes.is_home(shelf), homes.is_home(home)], [awry == [], True])
            self.assertEqual([ways.differing_runs(shelf, home), ways.fewest_turns(shelf, home)], [awry, len(awry)])
            told = [prices.least_price(shelf, home, {}), len(ways.shortest_way(home, shelf))]
            self.assertEqual(told, [len(awry)] * 2)
            self.assertEqual(catalogues.common_awry(shelf, [shelf.catalogue()[::-1]]), awry)
            self.assertEqual(catalogues.common_home(shelf, []), home)
            self.assertEqual(homes.shelf_with(shelf.catalogue(), homes.core_of(shelf)), home)
            signs = {knot: knots.sign_of(shelf, knot) for knot in knots.knots(shelf) if len(knot) > 1}
            arounds = {knot: knots.knot_around(shelf, knot) for knot in signs}
            self.assertEqual(sorted(knot for knot in signs if signs[knot] != signs.get(arounds[knot], "+")), awry)

    def test_the_class_counted(self):
        for shelf in some_shelves():
            many, turns = numbers.class_size(shelf), numbers.turns_from_home(shelf)
            named = neighbours(shelf.catalogue())
            self.assertEqual([sum(turns), arms.many_without(shelf, []), arms.parts_without(shelf, named)], [many] * 3)
            self.assertEqual([arms.many_without(shelf, named), arms.parts_without(shelf, [])], [1, 1])
            self.assertEqual(prices.many_at_price(shelf, {}, 12), turns + [0] * (13 - len(turns)))
            home = homes.home_of(shelf)
            self.assertEqual(prices.farthest_price(home, {}), len(turns) - 1)
            self.assertEqual(between.sum_of_ways(home), sum(at * count for at, count in enumerate(turns)))
            halves = {run: between.parting_shelves(shelf, run) for run in named}
            self.assertEqual([run for run in named if halves[run][0]], lots.turnable_runs(shelf))
            awry = homes.awry_runs(shelf)
            others = [half[run in awry] for run, half in halves.items() if half[0]]
            self.assertEqual(between.sum_of_ways(shelf), sum(others))
            one, other = numbers.farthest_pair(shelf)
            self.assertEqual(ways.fewest_turns(one, other), numbers.most_turns(shelf))
            if many <= 400:
                self.check_listed(shelf, many, turns)

    def check_listed(self, shelf, many, turns):
        listed = numbers.class_shelves(shelf)
        self.assertEqual([len(listed), listed.index(shelf)], [many, numbers.class_place(shelf)])
        for other in listed[::1 + many // 9]:
            self.assertIs(homes.are_joined(shelf, other), True)
            self.assertEqual(numbers.class_shelf(shelf, numbers.class_place(other)), other)
        awry = [len(homes.awry_runs(other)) for other in listed]
        self.assertEqual([awry.count(at) for at in range(len(turns))], turns)

    def test_sorted_or_not(self):
        for shelf in some_shelves():
            goal = shelves.sorted_shelf(shelf.catalogue())
            joined = homes.are_joined(shelf, goal)
            crossed = knots.knots_of_kind(shelf, "crossed")
            self.assertEqual([sorting.can_be_sorted(shelf), crossed == []], [joined, joined])
            self.assertEqual(sorting.bad_fours(shelf) == [], joined)
            self.assertEqual(homes.home_of(shelf) == goal, joined)
            self.assertEqual(sorting.sorting_turns(shelf), ways.fewest_turns(shelf, goal))
            self.assertEqual(sorting.nest(shelf) is None, not joined)
            entry = shelves.entry_of(shelf, shelf.row()[0])
            self.assertEqual(entry in changes.sorting_entries(shelf, shelf.row()[0]), joined)
            if joined:
                self.assertEqual(numbers.class_size(shelf), numbers.sorted_count(len(shelf.row())))
            if len(shelf.row()) < 8:
                self.assertEqual(sorting.least_outs(shelf), changes.joining_lots(shelf, goal))
                self.assertLessEqual(sorting.fewest_out(shelf), numbers.unsorted_least(len(shelf.row())))

    def test_changes_taken_back(self):
        for shelf in some_shelves():
            awry = len(homes.awry_runs(shelf))
            for book in shelf.row()[:3]:
                place, entry = shelves.place_of(shelf, book), shelves.entry_of(shelf, book)
                self.assertEqual(changes.turns_listed(shelf, book)[entry], awry)
                if len(shelf.row()) > 1:
                    less = shelves.changed(shelf, ("out", book))
                    self.assertEqual(changes.turns_at(less, book, entry)[place], awry)
                    self.assertEqual(changes.lot_without(shelf, book), homes.awry_runs(less))
                    both = [("out", book), ("put", book, entry, place)]
                    self.assertEqual(changes.lot_shelf(shelf, both, [0, 1]), shelf)
                    self.assertEqual(changes.put_for(shelf, book, Shelf([book], [book])), shelf)

    def test_texts(self):
        some = some_shelves()
        for shelf in some:
            self.assertEqual(papers.read_shelf(papers.shelf_text(shelf)), shelf)
            turns = ways.shortest_way(shelf, homes.home_of(shelf))
            self.assertEqual(papers.read_turns(papers.turns_text(turns)), turns)
            rates = prices.prices_by_size(shelf.catalogue(), [3, 0, 60])
            self.assertTrue(same(papers.read_prices(papers.prices_text(rates)), rates))
            script = [("put", shelf)] + [("turn", 0, run) for run in turns] + [("wish", 0, shelf)]
            self.assertEqual(scripts.read_script(scripts.script_text(script)), script)
        self.assertEqual(papers.read_shelves(papers.shelves_text(some[:7])), some[:7])


class TwoShelves(unittest.TestCase):
    def test_joined_or_not(self):
        for one, other in some_pairs():
            joined = homes.are_joined(one, other)
            told = [homes.core_of(one) == homes.core_of(other), homes.parting(one, other) is None,
                    ways.fewest_turns(one, other) is not None, catalogues.common_joined(one, other, []),
                    arms.joined_without(one, other, []), catalogues.first_parting(one, other, []) is None,
                    changes.meeting_changes(one, other, []) == [[]], between.fewest_days(one, other) is not None,
                    ways.many_ways(one, other) > 0 if len(homes.awry_runs(one)) < 6 else joined]
            self.assertEqual(told, [joined] * len(told))
            if joined:
                self.check_joined(one, other)

    def check_joined(self, one, other):
        differing = ways.differing_runs(one, other)
        many = len(differing)
        rates = prices.prices_by_size(one.catalogue(), [1])
        way, met = ways.shortest_way(one, other), lots.met(one, other)
        told = [ways.fewest_turns(one, other), prices.least_price(one, other, rates), len(way),
                catalogues.common_distance(one, other, []), len(arms.turns_without(one, other, [])),
                sum(map(len, between.day_plan(one, other))), len(ways.odd_runs(one, way)),
                ways.fewest_turns(one, met) + ways.fewest_turns(met, other)]
        self.assertEqual(told, [many] * len(told))
        self.assertEqual(arms.barring_runs(one, other, neighbours(one.catalogue())), differing)
        self.assertEqual(between.middle(one, other, other), other)
        self.assertEqual(prices.meeting_shelf([one, other, one], {}), one)
        self.assertEqual(ways.even(one, other), many % 2 == 0)
        self.assertIs(between.is_between(one, other, met), True)
        if many < 7:
            self.assertLessEqual(between.many_between(one, other), 2 ** many)
            self.assertLessEqual(many + 1, between.many_between(one, other))
            self.assertEqual(len(between.shelves_between(one, other)), between.many_between(one, other))
            self.assertEqual(ways.way_place(one, other, ways.way_at(one, other, 0)), 0)
        for book in one.row()[:2] if len(one.row()) > 1 else []:
            out = [shelves.changed(shelf, ("out", book)) for shelf in (one, other)]
            self.assertEqual(changes.lessened(one, other, book), many - ways.fewest_turns(*out))

    def test_halls(self):
        for one, other in some_pairs():
            hall = Hall(one.catalogue())
            spot = hall.put(one)
            if not homes.are_joined(one, other):
                self.assertEqual(scripts.play(hall, [("wish", spot, other)]), [("refused", "Apart")])
                continue
            hall.wish(spot, other)
            differing = ways.differing_runs(one, other)
            self.assertEqual([hall.needed(spot), hall.left(spot), hall.total()],
                             [differing, len(differing), len(differing)])
            self.assertEqual(hall.openings(spot), ways.first_runs(one, other))
            free = [run for run in neighbours(one.catalogue()) if run not in differing]
            self.assertEqual(hall.could_bar(), free)
            for run in free[:3]:
                hall.bar(run)
            twin = replayed(Hall(one.catalogue()), hall.log())
            while hall.left(spot):
                hall.go(spot)
            turns = [("go", spot)] * len(differing)
            self.assertEqual([said[0] for said in scripts.play(twin, turns)], ["gone"] * len(differing))
            self.assertEqual([hall.shelf(spot), twin.shelf(spot)], [other, other])
            self.assertTrue(same(hall, twin))
            wanted = ({0: (other, other)}, sorted(free[:3]))
            self.assertTrue(same(scripts.end_of(one.catalogue(), hall.log()), wanted))


# Questions of one shelf and of two, of all modules; those of two where both are joined.
OF_ONE = [
    shelves.ranks, shelves.mirrored, shelves.flipped, shelves.exchanged, shelves.shelf_number, runs.all_runs,
    knots.knots, knots.tree_of, knots.depth, homes.awry_runs, homes.home_of, homes.heaps_of, homes.core_of,
    lots.turnable_runs, lots.coming_runs, lots.filled, lots.faces, sorting.can_be_sorted, sorting.sorting_turns,
    sorting.bad_fours, sorting.nest, sorting.sortable_runs, numbers.class_size, numbers.turns_from_home,
    numbers.most_turns, numbers.farthest_pair, between.sum_of_ways, papers.shelf_text,
    lambda shelf: prices.many_at_price(shelf, {}, 12), lambda shelf: prices.farthest_at_price(shelf, {}),
    lambda shelf: arms.many_without(shelf, neighbours(shelf.catalogue())[::2]),
    lambda shelf: arms.parts_without(shelf, neighbours(shelf.catalogue())[::3]),
    lambda shelf: arms.least_of_part(shelf, neighbours(shelf.catalogue())[::2]),
    lambda shelf: catalogues.common_runs(shelf, [shelf.row()]),
    lambda shelf: catalogues.common_knots(shelf, [shelf.row(), shelf.catalogue()]),
    lambda shelf: catalogues.common_home(shelf, [shelf.row()[::-1]]),
    lambda shelf: changes.turns_at(shelf, "new", 0), lambda shelf: changes.joined_places(shelf, "new", 1),
    lambda shelf: changes.turns_listed(shelf, shelf.row()[0]),
    lambda shelf: changes.new_runs(shelf, ("put", "new", 1, 0)),
    lambda shelf: scripts.play(Hall(shelf.catalogue()), [("put", shelf), ("wish", 0, homes.home_of(shelf)),
                                                         ("needed", 0), ("openings", 0), ("go", 0), ("left", 0)]),
    lambda shelf: scripts.script_text([("try", [("put", shelf)])]), lambda shelf: Hall(shelf.catalogue()).could_bar()]
OF_TWO = [
    knots.same_knots, homes.are_joined, homes.parting, lots.met, lots.either, ways.differing_runs, ways.fewest_turns,
    ways.shortest_way, ways.ahead_of, ways.first_runs, ways.last_runs, ways.even, between.fewest_days, between.day_plan,
    between.busiest_books, between.many_between, arms.least_arms,
    lambda one, other: prices.cheapest_turns(one, other, {}), lambda one, other: prices.meeting_shelf([one, other], {}),
    lambda one, other: arms.turns_without(one, other, neighbours(one.catalogue())[::4]),
    lambda one, other: catalogues.common_way(one, other, [one.row()]),
    lambda one, other: catalogues.parting_lots(one, other, [one.row(), other.row()]),
    lambda one, other: between.middle(one, other, one),
    lambda one, other: changes.parting_changes(one, other, [("out", one.row()[0]), ("put", "new", 0, 0)]),
    lambda one, other: scripts.end_of(one.catalogue(), [("put", one), ("wish", 0, other), ("go", 0), ("go", 0)])]


class AskedAgain(unittest.TestCase):
    def questions(self, make):
        """Calls of all functions above, of shelves that a function makes anew for each of them."""
        found = []
        for shelf in drawn_shelves(127, (3, 5, 7), 3) + shelves_of_twelve()[3:5]:
            other = lots.filled(shelf)
            found += [lambda ask=ask, shelf=shelf: ask(make(shelf)) for ask in OF_ONE]
            found += [lambda ask=ask, one=shelf, other=other: ask(make(one), make(other)) for ask in OF_TWO]
        return found

    def asked(self, questions, order):
        """The copies of what is told in an order, spoilt as soon as it is told."""
        told = {}
        for at in order:
            given = questions[at]()
            told[at] = copy.deepcopy(given)
            spoil(given)
        return [told[at] for at in range(len(questions))]

    def test_in_other_orders(self):
        anew = self.questions(lambda shelf: Shelf(shelf.catalogue(), shelf.row()))
        first = self.asked(anew, range(len(anew)))
        drawn = random.Random(137)
        for questions in (anew, self.questions(lambda shelf: shelf)):
            for _ in range(2):
                again = self.asked(questions, drawn.sample(range(len(questions)), len(questions)))
                self.assertTrue(same(first, again))

    def test_shelves_made_elsewhere(self):
        some = [shelf for shelf in drawn_shelves(127, (3, 5, 7), 3) if numbers.class_size(shelf) <= 400]
        self.assertGreater(len(some), 4)
        for make in MADE_ELSEWHERE:
            for shelf in some:
                made = make(shelf)
                self.assertTrue(same(made, shelf))
                for ask in OF_ONE:
                    self.assertTrue(same(ask(made), ask(shelf)))
                for ask in OF_TWO:
                    self.assertTrue(same(ask(made, homes.home_of(made)), ask(shelf, homes.home_of(shelf))))
