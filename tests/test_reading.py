"""Points 8 and 10 to 12: the plain reading."""

import copy
import unittest

from giveway.errors import NoActor, NoChannel, NoMost, NoName, NoNet, NoWeaving
from giveway.reading import Reading, outcome
from tests.oracle import Oracle
from tests.things import ANYTHING, GREAT, NEVER

BOX = (0, 0, 0)
BARE = (BOX,)
BOTH = ((0, 1), (1, 0))

NO_ACTORS = NEVER + (2, -1, 9, "0", (0,), [0], 400)
NO_NAMES = NEVER + (0, 1, "A1", "aB", "abcdefg", "Abcdefg", "a ", "a\n", "AB", ("a",), ["G"], "a" * 8000)
NO_WEAVINGS = (
    None, True, 0, 1, GREAT, "", "0", "01", {}, {0: 0}, [True], [False], (0, True), [None], ["0"], [0.0], [[0]], [(0,)],
    [0, 2], [0, -1], (GREAT,), [0] * 401, (0,) * 401, [9] * 401, list(range(9_999)),
)


def alone(*statements):
    """A net of one actor."""
    return ((), (tuple(statements),))


def run_alone(*statements):
    """The reading of one actor, all its statements done."""
    reading = Reading(alone(*statements))
    while reading.step(0):
        pass
    return reading


def holding(name, *statements):
    return run_alone(*statements).holds(0, name)


def chain_of(many):
    """Statements that make K a chain of so many graphs within one another."""
    made = (("new", "K"),)
    for _ in range(many - 1):
        made += (("let", "L", "K"), ("new", "K"), ("hang", "K", "z", 0, "L"))
    return made


class TestStatements(unittest.TestCase):
    def test_num(self):
        for n in (-9999, -1, 0, 1, 9999):
            self.assertEqual(holding("a", ("num", "a", n)), n)
        self.assertEqual(holding("a", ("num", "a", 5), ("num", "a", 6)), 6)

    def test_sum(self):
        wanted = (
            (2, "+", 3, 5), (2, "-", 3, -1), (2, "*", 3, 6), (-4, "*", 5, -20), (0, "-", 0, 0),
            (2, "<", 3, 1), (3, "<", 3, 0), (4, "<", 3, 0), (2, "=", 3, 0), (3, "=", 3, 1), (-3, "<", 0, 1),
            (9999, "+", 1, 9999), (9999, "+", 0, 9999), (9998, "+", 1, 9999), (-9999, "-", 1, -9999),
            (-9999, "+", -9999, -9999), (-9998, "-", 1, -9999), (9999, "*", 9999, 9999), (9999, "*", -9999, -9999),
            (-9999, "*", -9999, 9999), (100, "*", 100, 9999), (-100, "*", 100, -9999), (99, "*", 101, 9999),
            (9999, "-", -1, 9999), (9999, "<", 9999, 0), (-9999, "=", -9999, 1),
        )
        for left, op, right, made in wanted:
            net = (("num", "b", left), ("num", "c", right), ("sum", "a", "b", op, "c"))
            self.assertEqual(holding("a", *net), made, (left, op, right))
            self.assertIs(type(holding("a", *net)), int)

    def test_sum_of_one_name(self):
        self.assertEqual(holding("a", ("num", "a", 7), ("sum", "a", "a", "+", "a")), 14)
        self.assertEqual(holding("a", ("sum", "a", "b", "=", "c")), 1)

    def test_new(self):
        self.assertEqual(holding("G", ("new", "G")), BARE)
        self.assertEqual(holding("G", ("add", "G", "a"), ("new", "G")), BARE)

    def test_let_is_a_worth(self):
        reading = run_alone(("add", "H", "a"), ("let", "G", "H"), ("put", "H", "a", 0, "a"), ("add", "G", "b"))
        self.assertEqual(reading.holds(0, "H"), (BOX, (1, 0, 0)))
        self.assertEqual(reading.holds(0, "G"), (BOX, BOX, BOX))

    def test_add(self):
        reading = run_alone(*(("add", "G", "a"), ("tell", "a")) * 4)
        self.assertEqual(reading.told(0), [1, 2, 3, 4])
        self.assertEqual(reading.holds(0, "G"), (BOX,) * 5)

    def test_add_to_eight(self):
        adds = (("num", "n", 9), ("num", "o", 1), ("while", "n", (
            ("add", "G", "a"), ("tell", "a"), ("sum", "n", "n", "-", "o"))))
        reading = run_alone(*adds)
        self.assertEqual(reading.told(0), [1, 2, 3, 4, 5, 6, 7, -1, -1])
        self.assertEqual(reading.holds(0, "G"), (BOX,) * 8)

    def test_add_to_twenty_four_in_all(self):
        adds = (("num", "n", 7), ("num", "o", 1), ("while", "n", (("add", "H", "a"), ("sum", "n", "n", "-", "o"))))
        hung = adds + (("hang", "G", "z", 0, "H"), ("hang", "G", "z", 1, "H"))
        again = (("num", "n", 9), ("while", "n", (("add", "G", "a"), ("tell", "a"), ("sum", "n", "n", "-", "o"))))
        self.assertEqual(run_alone(*hung, *again).told(0), [1, 2, 3, 4, 5, 6, 7, -1, -1])
        reading = run_alone(*hung, ("hang", "G", "z", 2, "K"), *again)
        self.assertEqual(reading.told(0), [1, 2, 3, 4, 5, 6, -1, -1, -1])

    def test_put(self):
        self.assertEqual(holding("G", ("num", "c", 7), ("put", "G", "b", 1, "c")), ((0, 7, 0),))
        for k in range(3):
            box = (0,) * k + (-9999,) + (0,) * (2 - k)
            self.assertEqual(holding("G", ("num", "c", -9999), ("put", "G", "b", k, "c")), (box,))

    def test_put_where_there_is_no_box(self):
        for b in (-1, 1, 8, 9999, -9999):
            self.assertEqual(holding("G", ("num", "b", b), ("num", "c", 7), ("put", "G", "b", 1, "c")), BARE)

    def test_tie(self):
        self.assertEqual(holding("G", ("tie", "G", "b", 2, "c")), ((0, 0, ("tie", 0)),))
        self.assertEqual(holding("G", ("add", "G", "c"), ("tie", "G", "b", 0, "c")), ((("tie", 1), 0, 0), BOX))

    def test_tie_where_there_is_no_box(self):
        for b, c in ((0, 1), (1, 0), (-1, 0), (0, -1), (9999, 9999)):
            self.assertEqual(holding("G", ("num", "b", b), ("num", "c", c), ("tie", "G", "b", 0, "c")), BARE)

    def test_hang_is_a_worth(self):
        reading = run_alone(("hang", "G", "b", 1, "H"), ("add", "H", "a"))
        self.assertEqual(reading.holds(0, "G"), ((0, BARE, 0),))
        self.assertEqual(reading.holds(0, "H"), (BOX, BOX))

    def test_hang_where_there_is_no_box(self):
        for b in (-1, 1, 9999):
            self.assertEqual(holding("G", ("num", "b", b), ("hang", "G", "b", 0, "H")), BARE)

    def test_hang_four_deep_and_no_deeper(self):
        reading = run_alone(*chain_of(4))
        four = reading.holds(0, "K")
        self.assertEqual(four, ((((((((0, 0, 0),), 0, 0),), 0, 0),), 0, 0),))
        self.assertEqual(run_alone(*chain_of(4), ("hang", "G", "z", 0, "K")).holds(0, "G"), BARE)
        self.assertEqual(run_alone(*chain_of(3), ("hang", "G", "z", 2, "K")).holds(0, "G"), ((0, 0, four[0][0]),))

    def test_get_and_sort(self):
        made = (
            ("add", "G", "a"), ("num", "n", -5), ("put", "G", "z", 0, "n"), ("tie", "G", "z", 1, "a"),
            ("hang", "G", "z", 2, "H"),
        )
        told = []
        for k in range(3):
            reading = run_alone(*made, ("get", "x", "G", "z", k), ("sort", "y", "G", "z", k))
            told.append((reading.holds(0, "x"), reading.holds(0, "y")))
        self.assertEqual(told, [(-5, 0), (1, 1), (0, 2)])
        for b in (-1, 2, 9999):
            reading = run_alone(*made, ("num", "b", b), ("get", "x", "G", "b", 0), ("sort", "y", "G", "b", 0))
            self.assertEqual((reading.holds(0, "x"), reading.holds(0, "y")), (0, 3))

    def test_get_into_the_name_of_the_box(self):
        self.assertEqual(holding("a", ("add", "G", "a"), ("put", "G", "a", 0, "a"), ("get", "a", "G", "a", 0)), 1)

    def test_pick(self):
        made = (("add", "H", "a"), ("hang", "G", "b", 1, "H"))
        reading = run_alone(*made, ("pick", "K", "G", "b", 1), ("add", "K", "a"))
        self.assertEqual(reading.holds(0, "K"), (BOX,) * 3)
        self.assertEqual(reading.holds(0, "G"), ((0, (BOX, BOX), 0),))

    def test_pick_into_the_same_name(self):
        made = (("add", "H", "a"), ("hang", "G", "b", 1, "H"), ("pick", "G", "G", "b", 1))
        self.assertEqual(holding("G", *made), (BOX, BOX))

    def test_pick_where_no_graph_is(self):
        made = (("add", "G", "a"), ("tie", "G", "b", 0, "a"), ("add", "K", "a"))
        for k in range(3):
            self.assertEqual(holding("K", *made, ("pick", "K", "G", "b", k)), BARE)
        for b in (-1, 2, 9999):
            self.assertEqual(holding("K", *made, ("num", "b", b), ("pick", "K", "G", "b", 0)), BARE)
        self.assertEqual(holding("G", *made, ("pick", "G", "G", "b", 0)), BARE)

    def test_tell_and_show(self):
        reading = run_alone(("tell", "a"), ("num", "a", 3), ("tell", "a"), ("show", "G"), ("add", "G", "a"), ("show", "G"))
        self.assertEqual(reading.told(0), [0, 3, BARE, (BOX, BOX)])

    def test_send_and_take(self):
        net = (((0, 1),), ((("send", 0, "G"), ("add", "G", "a"), ("send", 0, "G")), (("take", "K", 0), ("take", "L", 0))))
        reading = Reading(net)
        self.assertEqual(reading.weave([0, 0, 0]), (0, 0, 0))
        self.assertEqual(reading.channel(0), [BARE, (BOX, BOX)])
        self.assertEqual(reading.holds(0, "G"), (BOX, BOX))
        self.assertIs(reading.step(1), True)
        self.assertEqual(reading.channel(0), [(BOX, BOX)])
        self.assertEqual(reading.holds(1, "K"), BARE)
        self.assertIs(reading.step(1), True)
        self.assertEqual(reading.holds(1, "L"), (BOX, BOX))
        self.assertEqual(reading.channel(0), [])

    def test_names_are_an_actors_own(self):
        reading = Reading(((), ((("num", "a", 5), ("add", "G", "b")), (("tell", "a"), ("show", "G")))))
        reading.weave([0, 0, 1, 1])
        self.assertEqual(reading.told(1), [0, BARE])
        self.assertEqual(reading.holds(1, "a"), 0)

    def test_names_that_are_words(self):
        net = alone(("num", "copy", 4), ("tell", "copy"), ("num", "give", 2), ("tell", "give"), ("tell", "test"))
        reading = Reading(net)
        reading.weave([0] * 5)
        self.assertEqual(reading.told(0), [4, 2, 0])


class TestSteps(unittest.TestCase):
    def test_numbers_as_written(self):
        net = alone(
            ("num", "a", 1),                                                          # 0
            ("if", "a", (("tell", "a"), ("if", "b", (), (("tell", "b"),))),           # 1: 2, 3, 4
             (("tell", "c"),)),                                                       # 5
            ("while", "a", (("tell", "a"), ("num", "a", 0))),                         # 6: 7, 8
            ("if", "a", (("tell", "a"),), (("tell", "b"), ("tell", "c"))),            # 9: 10, 11, 12
        )
        reading = Reading(net)
        stands = [reading.at(0)]
        while reading.step(0):
            stands.append(reading.at(0))
        self.assertEqual(stands, [0, 1, 2, 3, 4, 6, 7, 8, 6, 9, 11, 12, -1])

    def test_looks_are_steps(self):
        reading = Reading(alone(("while", "a", (("tell", "a"),)), ("if", "a", (("tell", "a"),), ())))
        self.assertEqual((reading.at(0), reading.step(0)), (0, True))
        self.assertEqual((reading.at(0), reading.step(0)), (2, True))
        self.assertEqual((reading.at(0), reading.step(0)), (-1, False))
        self.assertEqual(reading.told(0), [])

    def test_any_number_but_nought_is_so(self):
        for n, told in ((0, [9]), (1, [5]), (-1, [5]), (9999, [5])):
            net = (("num", "a", n), ("num", "b", 5), ("num", "c", 9), ("if", "a", (("tell", "b"),), (("tell", "c"),)))
            self.assertEqual(run_alone(*net).told(0), told)

    def test_empty_blocks(self):
        for n in (0, 1):
            reading = Reading(alone(("num", "a", n), ("if", "a", (), ()), ("tell", "a")))
            self.assertEqual(reading.weave([0] * 9), (0,) * 3)
            self.assertEqual(reading.told(0), [n])
        reading = Reading(alone(("if", "a", (), ())))
        self.assertEqual(reading.weave([0] * 9), (0,))

    def test_a_while_that_does_not_end(self):
        reading = Reading(alone(("num", "a", 1), ("while", "a", ())))
        self.assertEqual(reading.weave([0] * 400), (0,) * 400)
        self.assertEqual(reading.at(0), 1)
        self.assertIs(reading.is_still(), False)

    def test_blocks_within_blocks(self):
        net = alone(("num", "a", 2), ("num", "o", 1), ("while", "a", (
            ("num", "b", 2), ("while", "b", (
                ("if", "b", (("tell", "a"), ("tell", "b"), ("sum", "b", "b", "-", "o")), ()),
            )),
            ("sum", "a", "a", "-", "o"),
        )))
        reading = Reading(net)
        reading.weave([0] * 400)
        self.assertEqual(reading.told(0), [2, 2, 2, 1, 1, 2, 1, 1])
        self.assertEqual(reading.at(0), -1)

    def test_the_end_of_a_block_within_a_while(self):
        reading = Reading(alone(("num", "a", 1), ("while", "a", (("if", "b", (("tell", "b"),), ()),))))
        reading.weave([0, 0, 0])
        self.assertEqual(reading.at(0), 1)

    def test_a_name_may_change_while_it_is_looked_at(self):
        reading = Reading(alone(("num", "a", 1), ("if", "a", (("num", "a", 0), ("tell", "a")), (("num", "a", 7),))))
        reading.weave([0] * 9)
        self.assertEqual(reading.told(0), [0])

    def test_an_actor_with_nothing_to_do(self):
        reading = Reading(((), ((), (("tell", "a"),))))
        self.assertEqual((reading.at(0), reading.step(0), reading.waits(0)), (-1, False, None))
        self.assertIs(reading.is_still(), False)
        self.assertEqual(reading.weave([0, 1, 0, 1]), (1,))
        self.assertIs(reading.is_still(), True)

    def test_a_take_waits_and_goes_on_later(self):
        net = (BOTH, ((("take", "G", 1), ("show", "G")), (("add", "H", "a"), ("send", 1, "H"))))
        reading = Reading(net)
        self.assertEqual((reading.waits(0), reading.waits(1)), (1, None))
        self.assertIs(reading.step(0), False)
        self.assertEqual((reading.at(0), reading.waits(0)), (0, 1))
        self.assertEqual(reading.weave([0, 1, 0, 1, 0, 0, 0]), (1, 1, 0, 0))
        self.assertEqual(reading.told(0), [(BOX, BOX)])
        self.assertEqual((reading.at(0), reading.waits(0)), (-1, None))

    def test_waits_no_more_once_something_lies_there(self):
        net = (((0, 1),), ((("send", 0, "G"),), (("take", "G", 0), ("take", "G", 0))))
        reading = Reading(net)
        self.assertEqual(reading.waits(1), 0)
        reading.step(0)
        self.assertIsNone(reading.waits(1))
        self.assertIs(reading.is_still(), False)
        reading.step(1)
        self.assertEqual((reading.at(1), reading.waits(1), reading.is_still()), (1, 0, True))

    def test_waits_only_where_it_stands_at_a_take(self):
        reading = Reading((((0, 1),), ((), (("tell", "a"), ("take", "G", 0)))))
        self.assertIsNone(reading.waits(1))
        reading.step(1)
        self.assertEqual(reading.waits(1), 0)

    def test_step_tells_a_truth(self):
        reading = Reading(alone(("tell", "a")))
        self.assertIs(reading.step(0), True)
        self.assertIs(reading.step(0), False)
        self.assertIs(reading.step(actor=0), False)


class TestAsked(unittest.TestCase):
    def setUp(self):
        self.net = (BOTH, ((("add", "G", "a"), ("show", "G"), ("send", 0, "G"), ("tell", "a")), (("take", "H", 0),)))
        self.reading = Reading(self.net)

    def test_no_net(self):
        for thing in ANYTHING:
            if thing != ((), ((),)):
                self.assertRaises(NoNet, Reading, thing)
                self.assertRaises(NoNet, outcome, thing)
                self.assertRaises(NoNet, outcome, thing, most=None)
        self.assertRaises(NoNet, Reading, list(self.net))
        self.assertRaises(NoNet, Reading, net=((), ()))

    def test_no_actor(self):
        for ask in (self.reading.step, self.reading.at, self.reading.waits, self.reading.told):
            for thing in NO_ACTORS:
                self.assertRaises(NoActor, ask, thing)
            for thing in ANYTHING:
                if thing != 0 and thing != 1 or isinstance(thing, bool):
                    self.assertRaises(NoActor, ask, thing)
        for thing in NO_ACTORS:
            self.assertRaises(NoActor, self.reading.holds, thing, "a")
            self.assertRaises(NoActor, self.reading.holds, thing, None)
        self.assertEqual(self.reading.at(0), 0)

    def test_no_name(self):
        for thing in NO_NAMES:
            self.assertRaises(NoName, self.reading.holds, 0, thing)
        self.assertRaises(NoName, self.reading.holds, actor=1, name="")

    def test_names_that_stand_nowhere(self):
        for name in ("x", "zzzzzz", "give", "num"):
            self.assertEqual(self.reading.holds(0, name), 0)
        for name in ("X", "Zzzzzz", "Give"):
            self.assertEqual(self.reading.holds(0, name), BARE)
        self.assertEqual(self.reading.holds(actor=1, name="G"), BARE)

    def test_no_channel(self):
        for thing in NO_ACTORS:
            self.assertRaises(NoChannel, self.reading.channel, thing)
        self.assertEqual(self.reading.channel(number=1), [])
        for thing in NEVER + (0, 1):
            self.assertRaises(NoChannel, Reading(alone()).channel, thing)

    def test_channels_are_not_actors(self):
        reading = Reading((((0, 1),) * 6, ((), (), ())))
        self.assertEqual([reading.channel(m) for m in range(6)], [[]] * 6)
        self.assertRaises(NoChannel, reading.channel, 6)
        self.assertEqual(reading.at(2), -1)
        self.assertRaises(NoActor, reading.at, 3)

    def test_no_weaving(self):
        ahead = self.told()
        for thing in NO_WEAVINGS:
            self.assertRaises(NoWeaving, self.reading.weave, thing)
            self.assertEqual(self.told(), ahead)
        for thing in ANYTHING:
            if thing not in ((), [], (0,), [0], (0, 1)) or thing == (True,):
                self.assertRaises(NoWeaving, self.reading.weave, thing)

    def told(self):
        return [(self.reading.at(a), self.reading.told(a), self.reading.holds(a, "a")) for a in (0, 1)]

    def test_one_that_is_no_actor_behind_right_ones(self):
        for last in (2, -1, None, True, "0", GREAT):
            self.assertRaises(NoWeaving, self.reading.weave, [0, 0, 0, last])
            self.assertEqual(self.reading.at(0), 0)

    def test_as_many_as_four_hundred(self):
        self.assertEqual(self.reading.weave([1] * 400), ())
        self.assertEqual(self.reading.weave((0,) * 400), (0,) * 4)
        self.assertRaises(NoWeaving, self.reading.weave, [0] * 401)
        self.assertRaises(NoWeaving, self.reading.weave, (1,) * 401)
        self.assertEqual(self.reading.at(1), 0)

    def test_none_at_all(self):
        self.assertEqual(self.reading.weave([]), ())
        self.assertEqual(self.reading.weave(weaving=()), ())
        self.assertEqual(self.reading.at(0), 0)

    def test_weaving_is_not_changed(self):
        weaving = [0, 1, 1, 0, 0, 1]
        kept = copy.copy(weaving)
        self.assertEqual(self.reading.weave(weaving), (0, 0, 0, 1))
        self.assertEqual(weaving, kept)

    def test_told_lists_are_the_askers(self):
        self.reading.weave([0, 0, 0])
        for ask in (lambda: self.reading.told(0), lambda: self.reading.channel(0)):
            kept = ask()
            self.assertEqual(kept, [(BOX, BOX)])
            self.assertIs(type(kept), list)
            kept.append(5)
            kept[0] = None
            self.assertEqual(ask(), [(BOX, BOX)])
        self.reading.told(1).append(4)
        self.reading.channel(1).append(4)
        self.assertEqual((self.reading.told(1), self.reading.channel(1)), ([], []))

    def test_asked_again(self):
        self.reading.weave([0, 0])
        self.assertEqual(self.told(), self.told())
        self.assertEqual(self.reading.is_still(), self.reading.is_still())

    def test_two_side_by_side(self):
        other = Reading(self.net)
        self.reading.weave([0, 0, 0, 1])
        self.assertEqual((other.at(0), other.told(0), other.channel(0), other.holds(0, "a")), (0, [], [], 0))
        other.weave([0, 0])
        self.assertEqual(self.reading.at(0), 3)

    def test_beside_the_second_reading(self):
        oracle = Oracle(self.net)
        for actor in (1, 0, 0, 1, 0, 1, 0, 0):
            self.assertIs(self.reading.step(actor), oracle.step(actor))
            self.assertEqual([self.reading.at(a) for a in (0, 1)], [oracle.at(a) for a in (0, 1)])
        self.assertIs(self.reading.is_still(), True)


class TestOutcome(unittest.TestCase):
    done = (((0, 1),), ((("send", 0, "G"), ("tell", "a")), (("take", "G", 0),)))
    still = (((0, 1),), ((("tell", "a"),), (("tell", "a"), ("take", "G", 0))))
    more = alone(("num", "a", 1), ("while", "a", ()))

    def test_done(self):
        self.assertEqual(outcome(self.done), ("done", (0, 1, 0)))
        self.assertEqual(outcome(self.done, most=400), ("done", (0, 1, 0)))
        self.assertEqual(outcome(self.done, most=3), ("done", (0, 1, 0)))
        self.assertEqual(outcome(self.done, most=2), ("more", (0, 1)))
        self.assertEqual(outcome(self.done, most=1), ("more", (0,)))

    def test_still(self):
        self.assertEqual(outcome(self.still), ("still", (0, 1)))
        self.assertEqual(outcome(self.still, most=2), ("still", (0, 1)))
        self.assertEqual(outcome(self.still, most=1), ("more", (0,)))
        self.assertEqual(outcome((((0, 1),), ((), (("take", "G", 0),))), most=0), ("still", ()))

    def test_more(self):
        self.assertEqual(outcome(self.more), ("more", (0,) * 400))
        self.assertEqual(outcome(self.more, most=399), ("more", (0,) * 399))
        self.assertEqual(outcome(net=self.more, most=0), ("more", ()))

    def test_nothing_to_do(self):
        for most in (0, 1, 400):
            self.assertEqual(outcome(alone(), most=most), ("done", ()))
            self.assertEqual(outcome(((), ((), (), (), ())), most=most), ("done", ()))

    def test_goes_round(self):
        net = ((), ((("tell", "a"),) * 3, (), (("tell", "a"),), (("tell", "a"),) * 2))
        self.assertEqual(outcome(net), ("done", (0, 2, 3, 0, 3, 0)))
        self.assertEqual(outcome(net, most=4), ("more", (0, 2, 3, 0)))

    def test_one_that_waits_is_passed_over(self):
        net = (((1, 0),), ((("take", "G", 0), ("tell", "a")), (("tell", "a"), ("send", 0, "G"), ("tell", "a"))))
        self.assertEqual(outcome(net), ("done", (1, 1, 0, 1, 0)))

    def test_the_last_step_may_end_it(self):
        # 400 steps, no more and no less: a number counted down, two steps a round.
        down = ("while", "a", (("sum", "a", "a", "-", "o"),))
        net = alone(("num", "a", 198), ("num", "o", 1), down, ("tell", "a"))
        self.assertEqual(outcome(net), ("done", (0,) * 400))
        self.assertEqual(outcome(net, most=399), ("more", (0,) * 399))
        longer = alone(("num", "a", 198), ("num", "o", 1), down, ("tell", "a"), ("tell", "a"))
        self.assertEqual(outcome(longer), ("more", (0,) * 400))

    def test_no_most(self):
        for most in NEVER + (401, -1, 1000, "400", (400,), [0]):
            self.assertRaises(NoMost, outcome, self.done, most=most)

    def test_most_by_its_name_alone(self):
        self.assertRaises(TypeError, outcome, self.done, 5)

    def test_the_weaving_does_the_same(self):
        for net in (self.done, self.still):
            end, weaving = outcome(net)
            reading = Reading(net)
            self.assertEqual(reading.weave(weaving), weaving)
            self.assertIs(reading.is_still(), True)


if __name__ == "__main__":
    unittest.main()
