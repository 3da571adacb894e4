"""Points 4 and 5, and of 3 the last sentence."""

import copy
import itertools
import unittest

from giveway.charts import are_ranks, is_bar, is_chart, is_ring, is_way, paper, rounds
from giveway.errors import NoChart, NoPoints
from tests.things import ANYTHING, GREAT, NEVER, is_plain, spoiled

# 0 -> 1, 2; 1 -> 3; 2 -> 3; 3 -> 3; 4 -> 0; 5 alone.
CHART = ((1, 2), (3,), (3,), (3,), (0,), ())


def some_points(many):
    return [points for size in range(many + 1) for points in itertools.combinations(range(many), size)]


def charts_of(many):
    return itertools.product(some_points(many), repeat=many)


def walks_of(many, most):
    return [walk for size in range(1, most + 1) for walk in itertools.product(range(many), repeat=size)]


def follows(chart, walk):
    return all(b in chart[a] for a, b in zip(walk, walk[1:]))


def ways_of(chart, starts, goals, most):
    return [
        walk for walk in walks_of(len(chart), most)
        if walk[0] in starts and walk[-1] in goals and follows(chart, walk)
    ]


def bars_of(chart, starts, goals):
    return [
        points for points in some_points(len(chart))
        if set(starts) <= set(points)
        and all(set(chart[point]) <= set(points) for point in points)
        and not set(goals) & set(points)
    ]


def rings_of(chart):
    many = len(chart)
    return [
        ring for size in range(1, many + 1) for ring in itertools.permutations(range(many), size)
        if follows(chart, ring + ring[:1])
    ]


def first_of(things):
    return min(things, key=lambda thing: (len(thing), thing))


def slow_ranks(chart):
    """Raised from 0 on as long as a rule is broken: the least there are."""
    ranks = [0] * len(chart)
    while True:
        raised = [max([ranks[after] + 1 for after in nexts], default=0) for nexts in chart]
        if raised == ranks:
            return tuple(ranks)
        ranks = raised


class TestIsChart(unittest.TestCase):
    def test_charts(self):
        for thing in ((), ((),), ((0,),), ((), ()), ((0, 1), (0, 1)), ((1,), (0,)), CHART, ((),) * 9_999):
            self.assertIs(is_chart(thing), True)

    def test_bounds(self):
        self.assertIs(is_chart(((1,), ())), True)
        for nexts in ((2,), (-1,), (0, 2), (-1, 0), (GREAT,), (-GREAT,)):
            self.assertIs(is_chart((nexts, ())), False, nexts)
        self.assertIs(is_chart(((0,),)), True)
        self.assertIs(is_chart(((1,),)), False)

    def test_nexts_rise(self):
        self.assertIs(is_chart(((0, 1, 2), (), ())), True)
        for nexts in ((0, 0), (1, 0), (0, 2, 1), (0, 1, 1), (2, 2)):
            self.assertIs(is_chart((nexts, (), ())), False, nexts)

    def test_other_kinds(self):
        for thing in spoiled(CHART):
            self.assertIs(is_chart(thing), False, thing)
        self.assertIs(is_chart(((False,), ())), False)
        self.assertIs(is_chart(((True,), ())), False)
        self.assertIs(is_chart(((0, True), ())), False)

    def test_anything_is_answered(self):
        for thing in ANYTHING:
            self.assertIn(is_chart(thing), (True, False))
        for thing in NEVER:
            self.assertIs(is_chart(thing), False)

    def test_by_name(self):
        self.assertIs(is_chart(thing=()), True)


class TestRefusals(unittest.TestCase):
    def asked(self, chart, starts, goals):
        return (
            lambda: paper(chart, starts, goals),
            lambda: is_way(chart, starts, goals, (0,)),
            lambda: is_bar(chart, starts, goals, (0,)),
        )

    def test_no_chart(self):
        for thing in ANYTHING:
            if is_chart(thing):
                continue
            for ask in self.asked(thing, (), ()):
                self.assertRaises(NoChart, ask)
            self.assertRaises(NoChart, rounds, thing)
            self.assertRaises(NoChart, is_ring, thing, (0,))
            self.assertRaises(NoChart, are_ranks, thing, (0,))

    def test_no_points(self):
        wrong = NEVER + ((2,), (0, 0), (1, 0), (0, 2), (-1, 0), (0, True), [0, 1], ((0,),), 0)
        for thing in wrong:
            for ask in self.asked(((), ()), thing, ()) + self.asked(((), ()), (), thing):
                self.assertRaises(NoPoints, ask)

    def test_no_points_of_the_empty_chart(self):
        for ask in self.asked((), (0,), ()) + self.asked((), (), (0,)):
            self.assertRaises(NoPoints, ask)

    def test_the_chart_goes_first(self):
        for thing in NEVER:
            for ask in self.asked([()], thing, thing):
                self.assertRaises(NoChart, ask)

    def test_refused_ahead_of_what_is_asked_about(self):
        for thing in NEVER:
            self.assertRaises(NoChart, is_way, [()], (), (), thing)
            self.assertRaises(NoPoints, is_way, ((),), (1,), (), thing)
            self.assertRaises(NoPoints, is_bar, ((),), (), (1,), thing)
            self.assertRaises(NoChart, is_ring, None, thing)
            self.assertRaises(NoChart, are_ranks, None, thing)


class TestWaysAndBars(unittest.TestCase):
    def test_no_points_at_all(self):
        self.assertEqual(paper((), (), ()), ("bar", ()))
        self.assertIs(is_bar((), (), (), ()), True)
        self.assertIs(is_way((), (), (), ()), False)
        self.assertIs(is_way((), (), (), (0,)), False)

    def test_empty_starts_or_goals(self):
        self.assertEqual(paper(CHART, (), (0, 3)), ("bar", ()))
        self.assertEqual(paper(CHART, (), ()), ("bar", ()))
        self.assertEqual(paper(CHART, (4,), ()), ("bar", (0, 1, 2, 3, 4)))
        self.assertEqual(paper(CHART, (3, 5), ()), ("bar", (3, 5)))

    def test_starts_and_goals_alike(self):
        self.assertEqual(paper(CHART, (2, 4), (2, 4)), ("way", (2,)))
        self.assertEqual(paper(CHART, (0, 5), (5,)), ("way", (5,)))

    def test_starts_and_goals_apart(self):
        self.assertEqual(paper(CHART, (0,), (3,)), ("way", (0, 1, 3)))
        self.assertEqual(paper(CHART, (4,), (3,)), ("way", (4, 0, 1, 3)))
        self.assertEqual(paper(CHART, (1, 2), (0, 4, 5)), ("bar", (1, 2, 3)))
        self.assertEqual(paper(CHART, (5,), (0, 1, 2, 3, 4)), ("bar", (5,)))

    def test_fewer_points_go_ahead_of_less_ones(self):
        self.assertEqual(paper(((1,), (3,), (3,), ()), (0, 2), (3,)), ("way", (2, 3)))
        self.assertEqual(paper(((1, 3), (2,), (4,), (4,), ()), (0,), (4,)), ("way", (0, 3, 4)))

    def test_of_equally_many_points_the_least(self):
        # Both 1 and 2 lead on to goals by two more points; the least goal is not the one of the least way.
        chart = ((1, 2), (6,), (3,), (), (), (), (7,), ())
        self.assertEqual(paper(chart, (0,), (3, 6)), ("way", (0, 1, 6)))
        self.assertEqual(paper(((2,), (2,), ()), (0, 1), (2,)), ("way", (0, 2)))
        self.assertEqual(paper(((3, 4), (), (), (5,), (1,), ()), (0,), (1, 5)), ("way", (0, 3, 5)))

    def test_a_long_way(self):
        many = 4_000
        chart = tuple((point + 1,) for point in range(many - 1)) + ((),)
        self.assertEqual(paper(chart, (0,), (many - 1,)), ("way", tuple(range(many))))
        self.assertEqual(paper(chart, (1,), (0,)), ("bar", tuple(range(1, many))))
        self.assertIs(is_way(chart, (0,), (many - 1,), tuple(range(many))), True)

    def test_is_way(self):
        for way in ((3,), (0, 1, 3), (0, 2, 3), (0, 1, 3, 3), (0, 1, 3, 3, 3, 3)):
            self.assertIs(is_way(CHART, (0, 3), (3, 5), way), True, way)
        for thing in ((), (0,), (5,), (1, 3), (0, 1), (0, 3), (0, 1, 2, 3), (3, 1, 3), (0, 1, 3, 5), (3, 6), (-3,)):
            self.assertIs(is_way(CHART, (0, 3), (3, 5), thing), False, thing)

    def test_is_way_of_truths_and_negative_numbers(self):
        chart = ((0, 1), (0, 1))
        self.assertIs(is_way(chart, (0, 1), (0, 1), (0, 1, 0)), True)
        for thing in ((False,), (0, True), (True, 0), (0, -1), (-1, 0), (0, 1, False)):
            self.assertIs(is_way(chart, (0, 1), (0, 1), thing), False, thing)

    def test_is_bar(self):
        for bar in ((3,), (1, 3), (2, 3), (1, 2, 3), (3, 5), (0, 1, 2, 3, 5)):
            self.assertIs(is_bar(CHART, (3,), (4,), bar), True, bar)
        for thing in ((), (1,), (1, 2), (3, 4), (0, 1, 3), (3, 3), (3, 1), (3, 6), (-1, 3), (5,)):
            self.assertIs(is_bar(CHART, (3,), (4,), thing), False, thing)
        self.assertIs(is_bar(CHART, (3,), (3,), (3,)), False)
        self.assertIs(is_bar(((), ()), (0, 1), (), (0,)), False)

    def test_is_bar_of_truths(self):
        chart = ((0, 1), (0, 1))
        self.assertIs(is_bar(chart, (0,), (), (0, 1)), True)
        for thing in ((0, True), (False, 1), (False, True)):
            self.assertIs(is_bar(chart, (0,), (), thing), False, thing)

    def test_anything_is_answered(self):
        for thing in ANYTHING:
            self.assertIn(is_way(CHART, (0, 3), (3,), thing), (True, False))
            self.assertIn(is_bar(CHART, (0, 3), (), thing), (True, False))
        for thing in NEVER:
            self.assertIs(is_way(CHART, (0, 1, 2, 3), (0, 1, 2, 3), thing), False)
            self.assertIs(is_bar(CHART, (), (), thing), False)
        for thing in spoiled((0, 1, 3)):
            self.assertIs(is_way(CHART, (0,), (3,), thing), False)
        for thing in spoiled((1, 2, 3)):
            self.assertIs(is_bar(CHART, (1, 2, 3), (), thing), False)

    def check_case(self, chart, starts, goals):
        ways = ways_of(chart, starts, goals, len(chart))
        bars = bars_of(chart, starts, goals)
        # Point 3: never both, always one.
        self.assertNotEqual(bool(ways), bool(bars))
        wanted = ("way", first_of(ways)) if ways else ("bar", first_of(bars))
        self.assertEqual(paper(chart, starts, goals), wanted)
        return ways, bars

    def test_each_small_chart(self):
        for many in range(3):
            for chart in charts_of(many):
                for starts, goals in itertools.product(some_points(many), repeat=2):
                    ways, bars = self.check_case(chart, starts, goals)
                    for thing in [()] + walks_of(many, many):
                        self.assertIs(is_way(chart, starts, goals, thing), thing in ways)
                    for thing in [()] + walks_of(many, many):
                        self.assertIs(is_bar(chart, starts, goals, thing), thing in bars)

    def test_some_charts_of_three_and_four(self):
        for chart in charts_of(3):
            for starts, goals in itertools.product(some_points(3), repeat=2):
                self.check_case(chart, starts, goals)
        for chart in list(charts_of(4))[::631]:
            for starts, goals in list(itertools.product(some_points(4), repeat=2))[::11]:
                self.check_case(chart, starts, goals)

    def test_by_name(self):
        case = {"chart": CHART, "starts": (0,), "goals": (3,)}
        self.assertEqual(paper(**case), ("way", (0, 1, 3)))
        self.assertIs(is_way(thing=(0, 2, 3), **case), True)
        self.assertIs(is_bar(thing=(0,), **case), False)


class TestRounds(unittest.TestCase):
    def test_no_points_at_all(self):
        self.assertEqual(rounds(()), ("ranks", ()))
        self.assertIs(are_ranks((), ()), True)
        self.assertIs(is_ring((), ()), False)

    def test_ring_of_one_point(self):
        self.assertEqual(rounds(((0,),)), ("ring", (0,)))
        self.assertEqual(rounds(((1,), (0,), (2,), (3,))), ("ring", (2,)))
        self.assertEqual(rounds(CHART), ("ring", (3,)))

    def test_of_equally_many_points_the_least(self):
        self.assertEqual(rounds(((2,), (3,), (0,), (1,))), ("ring", (0, 2)))
        self.assertEqual(rounds(((), (3, 4), (), (1,), (1,))), ("ring", (1, 3)))
        # From 0 on both 1 and 2 lead back by a third point.
        self.assertEqual(rounds(((1, 2), (4,), (3,), (0,), (0,))), ("ring", (0, 1, 4)))

    def test_fewest_points_go_first(self):
        self.assertEqual(rounds(((1,), (2,), (0,), (4,), (3,))), ("ring", (3, 4)))
        self.assertEqual(rounds(((1,), (2,), (0, 3), (2,))), ("ring", (2, 3)))

    def test_least_ranks(self):
        self.assertEqual(rounds(((), (), ())), ("ranks", (0, 0, 0)))
        self.assertEqual(rounds(((1, 2), (2,), ())), ("ranks", (2, 1, 0)))
        self.assertEqual(rounds(((), (0,), (0, 1), ())), ("ranks", (0, 1, 2, 0)))

    def test_long_ones(self):
        many = 4_000
        line = tuple((point + 1,) for point in range(many - 1))
        self.assertEqual(rounds(line + ((),)), ("ranks", tuple(range(many - 1, -1, -1))))
        self.assertEqual(rounds(line + ((0,),)), ("ring", tuple(range(many))))

    def test_is_ring(self):
        chart = ((1,), (2, 3), (0,), (0, 3))
        for ring in ((0, 1, 2), (1, 2, 0), (2, 0, 1), (3,), (0, 1, 3), (3, 0, 1)):
            self.assertIs(is_ring(chart, ring), True, ring)
        for thing in ((), (0,), (0, 1), (0, 2, 1), (0, 1, 2, 0), (0, 1, 2, 0, 1, 2), (3, 3), (4,), (-1,), (0, 1, 2, 3)):
            self.assertIs(is_ring(chart, thing), False, thing)

    def test_is_ring_of_other_kinds(self):
        chart = ((0, 1), (0, 1))
        self.assertIs(is_ring(chart, (0, 1)), True)
        for thing in spoiled((0, 1)):
            self.assertIs(is_ring(chart, thing), False, thing)
        for thing in ((False,), (True,), (0, True), (False, 1), [0, 1], [0]):
            self.assertIs(is_ring(chart, thing), False, thing)

    def test_are_ranks(self):
        chart = ((1, 2), (2,), ())
        for ranks in ((2, 1, 0), (9, 5, 4), (0, -1, -2), (GREAT, 0, -GREAT), (-7, -8, -9)):
            self.assertIs(are_ranks(chart, ranks), True, ranks)
        for thing in ((), (2, 1), (2, 1, 0, 0), (1, 1, 0), (2, 1, 1), (1, 2, 0), (2, 0, 1), (0, 1, 2)):
            self.assertIs(are_ranks(chart, thing), False, thing)
        self.assertIs(are_ranks(((), ()), (0, 0)), True)
        self.assertIs(are_ranks(((0,),), (0,)), False)

    def test_are_ranks_of_other_kinds(self):
        chart = ((), (), ())
        self.assertIs(are_ranks(chart, (0, 0, 0)), True)
        self.assertIs(are_ranks(chart, [0, 0, 0]), False)
        for other in NEVER:
            if other not in (GREAT, -GREAT) or isinstance(other, bool):
                for k in range(3):
                    self.assertIs(are_ranks(chart, (0,) * k + (other,) + (0,) * (2 - k)), False, other)
        self.assertIs(are_ranks(((1,), ()), (True, False)), False)
        self.assertIs(are_ranks(((1,), ()), (1, False)), False)

    def test_anything_is_answered(self):
        for thing in ANYTHING:
            self.assertIn(is_ring(CHART, thing), (True, False))
            self.assertIn(are_ranks(CHART, thing), (True, False))
        for thing in NEVER:
            self.assertIs(is_ring(((0,), (1,)), thing), False)
            self.assertIs(are_ranks(((), ()), thing), False)

    def check_chart(self, chart):
        rings = rings_of(chart)
        wanted = ("ring", first_of(rings)) if rings else ("ranks", slow_ranks(chart))
        self.assertEqual(rounds(chart), wanted)
        return rings

    def test_each_small_chart(self):
        for many in range(4):
            for chart in charts_of(many):
                rings = self.check_chart(chart)
                for thing in walks_of(many, many):
                    self.assertIs(is_ring(chart, thing), thing in rings)
                for thing in itertools.product(range(-1, many - 1), repeat=many):
                    wanted = all(thing[a] > thing[b] for a in range(many) for b in chart[a])
                    self.assertIs(are_ranks(chart, thing), wanted)

    def test_some_charts_of_four_and_five(self):
        for chart in list(charts_of(4))[::37]:
            self.check_chart(chart)
        sparse = list(itertools.product([(), (0,), (1, 2), (3,), (2, 4)], repeat=5))
        for chart in sparse[::7]:
            self.check_chart(chart)

    def test_by_name(self):
        self.assertEqual(rounds(chart=((),)), ("ranks", (0,)))
        self.assertIs(is_ring(chart=((0,),), thing=(0,)), True)
        self.assertIs(are_ranks(chart=((),), thing=(-5,)), True)


class TestNothingHangsOnWhatIsHandedIn(unittest.TestCase):
    def test_nothing_is_changed(self):
        for thing in ANYTHING:
            before = copy.deepcopy(thing)
            is_chart(thing)
            is_way(CHART, (0,), (3,), thing)
            is_bar(CHART, (0,), (3,), thing)
            is_ring(CHART, thing)
            are_ranks(CHART, thing)
            self.assertEqual(thing, before)

    def test_the_same_answer_again(self):
        first = paper(CHART, (0, 4), (3,))
        paper(CHART, (), ())
        self.assertEqual(paper(CHART, (0, 4), (3,)), first)
        self.assertEqual(rounds(CHART), rounds(CHART))

    def test_what_is_told_are_tuples(self):
        told = (paper(CHART, (0,), (3,)), paper(CHART, (3,), (0,)), rounds(CHART), rounds(((1,), ())))
        for thing in told:
            self.assertTrue(is_plain(thing))

    def test_what_was_told_may_be_handed_in_again(self):
        self.assertIs(is_way(CHART, (0,), (3,), paper(CHART, (0,), (3,))[1]), True)
        self.assertIs(is_bar(CHART, (3,), (0,), paper(CHART, (3,), (0,))[1]), True)
        self.assertIs(is_ring(CHART, rounds(CHART)[1]), True)
        self.assertIs(are_ranks(((1,), ()), rounds(((1,), ()))[1]), True)


if __name__ == "__main__":
    unittest.main()
