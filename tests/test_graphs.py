"""Points 6 and 7."""

import copy
import itertools
import unittest

from giveway.errors import NoGraph, NoPlace
from giveway.graphs import (
    boxes_in, depth_of, graph_at, grown, is_graph, number_at, sort_at, with_graph, with_number, with_tie,
)
from tests.things import ANYTHING, GREAT, NEVER, is_plain, spoiled

BOX = (0, 0, 0)
BARE = (BOX,)
EIGHT = (BOX,) * 8
TWO_DEEP = ((1, BARE, ("tie", 0)),)
THREE_DEEP = ((TWO_DEEP, 0, 0), BOX)
FOUR_DEEP = ((0, 0, THREE_DEEP),)
FIVE_DEEP = ((FOUR_DEEP, 0, 0),)
# 8 + 8 + 8, and one more.
FULL = ((EIGHT, EIGHT, 0),) + (BOX,) * 7
OVERFULL = ((EIGHT, EIGHT, BARE),) + (BOX,) * 7
# Room for one box of its own, but none in all.
CROWDED = ((EIGHT, EIGHT, 0), (BARE, 0, 0)) + (BOX,) * 5
MIXED = ((5, ("tie", 1), TWO_DEEP), (-9999, 9999, ("tie", 0)), (BARE, BARE, 0))

WRONG_PLACES = NEVER + (3, -1, 4, "0", (0,), [1])
NO_BOX_OF_MIXED = (-1, 3, -3, 8, GREAT, -GREAT)


def chain(depth):
    graph = BARE
    for _ in range(depth - 1):
        graph = ((0, graph, 0),)
    return graph


class TestIsGraph(unittest.TestCase):
    def test_graphs(self):
        for thing in (BARE, EIGHT, TWO_DEEP, THREE_DEEP, FOUR_DEEP, FULL, CROWDED, MIXED):
            self.assertIs(is_graph(thing), True, thing)

    def test_one_to_eight_boxes(self):
        self.assertIs(is_graph(()), False)
        for many in range(1, 9):
            self.assertIs(is_graph((BOX,) * many), True)
        for many in (9, 10, 25):
            self.assertIs(is_graph((BOX,) * many), False)
        self.assertIs(is_graph((((), 0, 0),)), False)
        self.assertIs(is_graph((((BOX,) * 9, 0, 0),)), False)

    def test_three_places(self):
        for many in (0, 1, 2, 4, 5):
            self.assertIs(is_graph(((0,) * many,)), False)
            self.assertIs(is_graph((BOX, (0,) * many)), False)
            self.assertIs(is_graph(((((0,) * many,), 0, 0),)), False)

    def test_numbers(self):
        for k in range(3):
            for number in (-9999, -1, 0, 1, 9999):
                self.assertIs(is_graph(((0,) * k + (number,) + (0,) * (2 - k),)), True, number)
            for number in (-10000, 10000, GREAT, -GREAT, True, False):
                self.assertIs(is_graph(((0,) * k + (number,) + (0,) * (2 - k),)), False, number)

    def test_ties(self):
        for b in (0, 1):
            self.assertIs(is_graph(((("tie", b), 0, 0), BOX)), True)
        for tie in (
            ("tie", 2), ("tie", -1), ("tie", GREAT), ("tie", True), ("tie", False), ("tie", None), ("tie", "0"),
            ("tie", (0,)), ("tie",), ("tie", 0, 0), ("Tie", 0), ("ti", 0), (0, "tie"), ["tie", 0], (["tie"], 0), "tie",
            (None, 0), ("at", 0),
        ):
            self.assertIs(is_graph(((tie, 0, 0), BOX)), False, tie)

    def test_ties_are_of_the_same_graph(self):
        inner = (BOX, (0, ("tie", 1), 0))
        self.assertIs(is_graph(((inner, 0, 0),)), True)
        self.assertIs(is_graph((((((("tie", 1), 0, 0),)), 0, 0), BOX)), False)
        self.assertIs(is_graph(((inner, ("tie", 1), 0),)), False)

    def test_in_all(self):
        self.assertIs(is_graph(FULL), True)
        self.assertIs(is_graph(OVERFULL), False)
        self.assertIs(is_graph(((EIGHT, EIGHT, (BOX,) * 7),)), True)
        self.assertIs(is_graph(((EIGHT, EIGHT, EIGHT),)), False)
        self.assertIs(is_graph(((((EIGHT, EIGHT, 0),) + (BOX,) * 6, 0, 0),)), True)
        self.assertIs(is_graph(((((EIGHT, EIGHT, 0),) + (BOX,) * 7, 0, 0),)), False)
        self.assertIs(is_graph(((EIGHT, 0, 0), (0, EIGHT, 0)) + (BOX,) * 6), True)
        self.assertIs(is_graph(((EIGHT, 0, 0), (0, EIGHT, 0), (0, 0, BARE)) + (BOX,) * 5), False)

    def test_depth(self):
        self.assertIs(is_graph(FOUR_DEEP), True)
        self.assertIs(is_graph(FIVE_DEEP), False)
        for depth in range(1, 5):
            self.assertIs(is_graph(chain(depth)), True)
        for depth in (5, 6, 10):
            self.assertIs(is_graph(chain(depth)), False)

    def test_other_kinds(self):
        for thing in spoiled(MIXED):
            self.assertIs(is_graph(thing), False, thing)

    def test_anything_is_answered(self):
        for thing in ANYTHING:
            self.assertIn(is_graph(thing), (True, False))
        for thing in NEVER:
            self.assertIs(is_graph(thing), False)
        self.assertIs(is_graph(0), False)
        self.assertIs(is_graph(("tie", 0)), False)
        self.assertIs(is_graph(thing=BARE), True)


class TestCounts(unittest.TestCase):
    def test_boxes_in(self):
        wanted = ((BARE, 1), (EIGHT, 8), (TWO_DEEP, 2), (THREE_DEEP, 4), (FOUR_DEEP, 5), (FULL, 24), (CROWDED, 24))
        for graph, many in wanted:
            self.assertEqual(boxes_in(graph), many)
        self.assertEqual(boxes_in(graph=MIXED), 7)

    def test_depth_of(self):
        wanted = ((BARE, 1), (EIGHT, 1), (TWO_DEEP, 2), (THREE_DEEP, 3), (FOUR_DEEP, 4), (FULL, 2), (MIXED, 3))
        for graph, deep in wanted:
            self.assertEqual(depth_of(graph), deep)
        self.assertEqual(depth_of(graph=((("tie", 0), 0, 0),)), 1)
        self.assertEqual(depth_of(((chain(3), 0, BARE), (BARE, 0, 0))), 4)
        self.assertEqual(depth_of(((BARE, 0, 0), (0, 0, chain(3)))), 4)

    def test_no_graph(self):
        for thing in ANYTHING + (OVERFULL, FIVE_DEEP):
            if is_graph(thing):
                continue
            self.assertRaises(NoGraph, boxes_in, thing)
            self.assertRaises(NoGraph, depth_of, thing)


class TestDeeds(unittest.TestCase):
    def test_grown(self):
        self.assertEqual(grown(BARE), (BOX, BOX))
        self.assertEqual(grown(MIXED), MIXED + (BOX,))
        self.assertEqual(grown(graph=(BOX,) * 7), EIGHT)
        self.assertEqual(grown(FOUR_DEEP), FOUR_DEEP + (BOX,))
        twenty_three = ((EIGHT, EIGHT, 0),) + (BOX,) * 6
        self.assertEqual(grown(twenty_three), FULL)

    def test_not_grown(self):
        self.assertEqual(grown(EIGHT), EIGHT)
        self.assertEqual(grown(FULL), FULL)
        self.assertEqual(boxes_in(CROWDED), 24)
        self.assertEqual(grown(CROWDED), CROWDED)

    def test_with_number(self):
        for b, k in itertools.product(range(3), range(3)):
            made = with_number(MIXED, b, k, number=7)
            for other, place in itertools.product(range(3), range(3)):
                self.assertEqual(made[other][place], 7 if (other, place) == (b, k) else MIXED[other][place])
            self.assertTrue(is_graph(made))
        self.assertEqual(with_number(graph=BARE, b=0, k=2, number=3), ((0, 0, 3),))

    def test_numbers_are_held(self):
        wanted = ((9998, 9998), (9999, 9999), (10000, 9999), (GREAT, 9999), (-9998, -9998), (-9999, -9999),
                  (-10000, -9999), (-GREAT, -9999), (0, 0))
        for number, what in wanted:
            self.assertEqual(with_number(BARE, 0, 1, number=number), ((0, what, 0),))

    def test_with_number_without_such_a_box(self):
        for b in NO_BOX_OF_MIXED:
            self.assertEqual(with_number(MIXED, b, 0, number=7), MIXED)

    def test_with_tie(self):
        self.assertEqual(with_tie(BARE, 0, 0, to=0), ((("tie", 0), 0, 0),))
        self.assertEqual(with_tie((BOX, BOX), 1, 2, to=0), (BOX, (0, 0, ("tie", 0))))
        self.assertEqual(with_tie(MIXED, 0, 2, to=2), ((5, ("tie", 1), ("tie", 2)),) + MIXED[1:])
        self.assertEqual(with_tie(graph=(BOX, BOX), b=0, k=1, to=1), ((0, ("tie", 1), 0), BOX))

    def test_with_tie_without_such_boxes(self):
        for b in NO_BOX_OF_MIXED:
            self.assertEqual(with_tie(MIXED, b, 0, to=0), MIXED)
            self.assertEqual(with_tie(MIXED, 0, 0, to=b), MIXED)
            self.assertEqual(with_tie(MIXED, b, 0, to=b), MIXED)

    def test_with_graph(self):
        self.assertEqual(with_graph(BARE, 0, 1, other=EIGHT), ((0, EIGHT, 0),))
        self.assertEqual(with_graph(BARE, 0, 0, other=chain(3)), ((chain(3), 0, 0),))
        self.assertEqual(with_graph(graph=MIXED, b=2, k=0, other=TWO_DEEP), MIXED[:2] + ((TWO_DEEP, BARE, 0),))
        self.assertEqual(with_graph(BARE, 0, 0, other=BARE), ((BARE, 0, 0),))

    def test_with_graph_up_to_the_bounds(self):
        with_sixteen = ((EIGHT, 0, 0),) + (BOX,) * 7
        self.assertEqual(with_graph(with_sixteen, 0, 1, other=EIGHT), FULL)
        self.assertEqual(with_graph(FULL, 0, 2, other=BARE), FULL)
        self.assertEqual(with_graph(FULL, 7, 0, other=BARE), FULL)
        self.assertEqual(with_graph(BARE, 0, 0, other=FOUR_DEEP), BARE)
        self.assertEqual(with_graph(BARE, 0, 0, other=FULL), BARE)
        self.assertEqual(with_graph(BARE, 0, 0, other=((EIGHT, EIGHT, (BOX,) * 6),)), ((((EIGHT, EIGHT, (BOX,) * 6),), 0, 0),))

    def test_what_is_replaced_does_not_count(self):
        self.assertEqual(with_graph(FULL, 0, 0, other=(BOX,) * 7), (((BOX,) * 7, EIGHT, 0),) + FULL[1:])
        self.assertEqual(with_graph(FULL, 0, 0, other=TWO_DEEP), ((TWO_DEEP, EIGHT, 0),) + FULL[1:])
        self.assertEqual(with_graph(FOUR_DEEP, 0, 2, other=BARE), ((0, 0, BARE),))

    def test_with_graph_without_such_a_box(self):
        for b in NO_BOX_OF_MIXED:
            self.assertEqual(with_graph(MIXED, b, 0, other=BARE), MIXED)

    def test_the_last_part_goes_by_its_name_alone(self):
        for deed in (with_number, with_tie):
            self.assertRaises(TypeError, deed, BARE, 0, 0, 0)
        self.assertRaises(TypeError, with_graph, BARE, 0, 0, BARE)

    def test_what_was_handed_in_stays(self):
        graph = copy.deepcopy(MIXED)
        grown(graph), with_number(graph, 0, 0, number=1), with_tie(graph, 0, 0, to=1)
        with_graph(graph, 0, 0, other=BARE)
        self.assertEqual(graph, MIXED)

    def test_what_is_told_are_tuples(self):
        told = (
            grown(MIXED), with_number(MIXED, 0, 0, number=1), with_tie(MIXED, 0, 0, to=1),
            with_graph(MIXED, 0, 0, other=BARE), graph_at(MIXED, 0, 2), graph_at(MIXED, 0, 0),
        )
        for thing in told:
            self.assertTrue(is_plain(thing))
            self.assertTrue(is_graph(thing))


class TestPlaces(unittest.TestCase):
    def test_sort_at(self):
        sorts = [[sort_at(MIXED, b, k) for k in range(3)] for b in range(3)]
        self.assertEqual(sorts, [[0, 1, 2], [0, 0, 1], [2, 2, 0]])
        self.assertEqual(sort_at(graph=BARE, b=0, k=0), 0)

    def test_number_at(self):
        numbers = [[number_at(MIXED, b, k) for k in range(3)] for b in range(3)]
        self.assertEqual(numbers, [[5, 1, 0], [-9999, 9999, 0], [0, 0, 0]])
        self.assertEqual(number_at(graph=(BOX, BOX, (("tie", 2), 0, 0)), b=2, k=0), 2)

    def test_graph_at(self):
        graphs = [[graph_at(MIXED, b, k) for k in range(3)] for b in range(3)]
        self.assertEqual(graphs, [[BARE, BARE, TWO_DEEP], [BARE, BARE, BARE], [BARE, BARE, BARE]])
        self.assertEqual(graph_at(graph=((EIGHT, 0, 0),), b=0, k=0), EIGHT)
        self.assertEqual(graph_at(((7, 0, 0),), 0, 0), BARE)

    def test_no_such_box(self):
        for b, k in itertools.product(NO_BOX_OF_MIXED, range(3)):
            self.assertEqual(sort_at(MIXED, b, k), 3)
            self.assertEqual(number_at(MIXED, b, k), 0)
            self.assertEqual(graph_at(MIXED, b, k), BARE)


class TestRefusals(unittest.TestCase):
    def asked(self, graph, b, k):
        return (
            lambda: with_number(graph, b, k, number=1),
            lambda: with_tie(graph, b, k, to=0),
            lambda: with_graph(graph, b, k, other=BARE),
            lambda: sort_at(graph, b, k),
            lambda: number_at(graph, b, k),
            lambda: graph_at(graph, b, k),
        )

    def test_no_graph(self):
        for thing in ANYTHING + (OVERFULL, FIVE_DEEP):
            if is_graph(thing):
                continue
            self.assertRaises(NoGraph, grown, thing)
            for ask in self.asked(thing, 0, 0):
                self.assertRaises(NoGraph, ask)

    def test_no_place(self):
        for thing in WRONG_PLACES:
            for ask in self.asked(MIXED, 0, thing):
                self.assertRaises(NoPlace, ask)

    def test_no_place_of_no_box(self):
        for b in NO_BOX_OF_MIXED:
            for ask in self.asked(MIXED, b, 3):
                self.assertRaises(NoPlace, ask)

    def test_the_graph_goes_ahead_of_the_place(self):
        for ask in self.asked([BOX], 0, 3) + self.asked((), GREAT, None):
            self.assertRaises(NoGraph, ask)

    def test_no_other_graph(self):
        for thing in ANYTHING + (OVERFULL, FIVE_DEEP):
            if is_graph(thing):
                continue
            self.assertRaises(NoGraph, with_graph, BARE, 0, 0, other=thing)
            self.assertRaises(NoGraph, with_graph, BARE, 1, 0, other=thing)

    def test_the_place_goes_ahead_of_the_other_graph(self):
        for thing in WRONG_PLACES:
            self.assertRaises(NoPlace, with_graph, BARE, 0, thing, other=None)
            self.assertRaises(NoPlace, with_graph, BARE, 5, thing, other=())
        self.assertRaises(NoGraph, with_graph, None, 0, 3, other=BARE)

    def test_nothing_is_changed(self):
        for thing in ANYTHING:
            before = copy.deepcopy(thing)
            is_graph(thing)
            for ask in self.asked(thing, 0, 0) + self.asked(BARE, 0, thing):
                try:
                    ask()
                except (NoGraph, NoPlace):
                    pass
            self.assertEqual(thing, before)


if __name__ == "__main__":
    unittest.main()
