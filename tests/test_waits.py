"""Point 26: who waits for whom."""

import unittest

from giveway.charts import are_ranks, is_chart, is_ring, rounds
from giveway.errors import NoNet, NotStill
from giveway.machine import Machine
from giveway.reading import Reading
from giveway.waits import knot, rounds_of, waiting_chart
from tests.drawn import Draw
from tests.things import ANYTHING, spoiled

TELL = ("tell", "a")
# Channels from each of four actors to the next one, and two more.
ROUND = ((0, 1), (1, 2), (2, 3), (3, 0), (1, 0), (3, 2))


def take(m):
    return ("take", "G", m)


def net_of(channels, *takes):
    """A net whose actors take from these channels, one behind the other."""
    return (channels, tuple(tuple(take(m) for m in row) for row in takes))


def statements(block):
    for statement in block:
        yield statement
        for part in statement[2:]:
            if isinstance(part, tuple):
                yield from statements(part)


def chart_by_hand(net):
    channels, actors = net
    return tuple(
        tuple(sorted({channels[s[2]][0] for s in statements(block) if s[0] == "take"})) for block in actors
    )


def knot_by_hand(run, net):
    """The knot, or the ends, by walking as often as there are actors."""
    channels, actors = net
    after = {a: channels[run.waits(a)][0] for a in range(len(actors)) if run.waits(a) is not None}

    def walk(actor):
        walked = [actor]
        while walked[-1] in after and len(walked) <= 8:
            walked.append(after[walked[-1]])
        return walked
    for actor in range(len(actors)):
        if actor in walk(actor)[1:]:
            walked = walk(actor)
            return ("knot", tuple(walked[:walked.index(actor, 1)]))
    return ("open", tuple((actor, walk(actor)[-1]) for actor in sorted(after)))


class TestChart(unittest.TestCase):
    def test_takes(self):
        self.assertEqual(waiting_chart(net_of(ROUND, [3], [0], [1], [2])), ((3,), (0,), (1,), (2,)))
        self.assertEqual(waiting_chart(net_of(ROUND, [], [0], [5, 1], [])), ((), (0,), (1, 3), ()))
        self.assertEqual(waiting_chart(net=net_of(ROUND, [4, 3], [], [], [])), ((1, 3), (), (), ()))

    def test_no_takes(self):
        self.assertEqual(waiting_chart(((), ((),))), ((),))
        self.assertEqual(waiting_chart(net_of(ROUND, [], [], [], [])), ((), (), (), ()))
        self.assertEqual(waiting_chart(((), ((TELL,), (), (TELL,)))), ((), (), ()))

    def test_sends_do_not_count(self):
        net = (((0, 1), (1, 0)), ((("send", 0, "G"),), (take(0), ("send", 1, "G"))))
        self.assertEqual(waiting_chart(net), ((), (0,)))

    def test_a_channel_that_nobody_takes_from(self):
        self.assertEqual(waiting_chart(net_of(((0, 1), (2, 1)), [], [1], [])), ((), (2,), ()))

    def test_channels_twice_between_two(self):
        channels = ((0, 1), (0, 1), (1, 0), (0, 1))
        self.assertEqual(waiting_chart(net_of(channels, [], [0, 1, 3, 0])), ((), (0,)))
        self.assertEqual(waiting_chart(net_of(channels, [2, 2], [3])), ((1,), (0,)))

    def test_takes_in_whatever_statement(self):
        channels = ((1, 0), (2, 0), (3, 0))
        for block in (
            (("if", "a", (take(1),), ()),),
            (("if", "a", (), (take(1),)),),
            (("while", "a", (take(1),)),),
            (TELL, ("while", "a", (("if", "a", (("while", "b", (TELL, take(1))),), ()),)), TELL),
            (("if", "a", (), (("if", "a", (), (("if", "a", (), (take(1),)),)),)),),
        ):
            self.assertEqual(waiting_chart((channels, (block, (), (), ()))), ((2,), (), (), ()))
            self.assertEqual(waiting_chart((channels, (block + (take(2),), (), (), ()))), ((2, 3), (), (), ()))
            self.assertEqual(waiting_chart((channels, ((take(0),) + block, (), (), ()))), ((1, 2), (), (), ()))

    def test_drawn(self):
        for seed in range(200):
            net = Draw(seed).net()
            chart = waiting_chart(net)
            self.assertIs(is_chart(chart), True)
            self.assertEqual(chart, chart_by_hand(net))
            self.assertEqual(rounds_of(net), rounds(chart))
            word, found = rounds_of(net)
            self.assertIs((is_ring if word == "ring" else are_ranks)(chart, found), True)

    def test_no_net(self):
        right = net_of(((0, 1),), [], [0])
        for thing in ANYTHING + tuple(spoiled(right)):
            if thing != ((), ((),)):
                self.assertRaises(NoNet, waiting_chart, thing)
                self.assertRaises(NoNet, rounds_of, thing)


class TestRounds(unittest.TestCase):
    def test_rings(self):
        self.assertEqual(rounds_of(net_of(ROUND, [3], [0], [1], [2])), ("ring", (0, 3, 2, 1)))
        self.assertEqual(rounds_of(net_of(ROUND, [3, 4], [0], [1], [2])), ("ring", (0, 1)))
        self.assertEqual(rounds_of(net=net_of(ROUND, [], [], [5], [2])), ("ring", (2, 3)))

    def test_ranks(self):
        self.assertEqual(rounds_of(net_of(ROUND, [], [0], [1], [2])), ("ranks", (0, 1, 2, 3)))
        self.assertEqual(rounds_of(net_of(ROUND, [3], [], [5], [])), ("ranks", (1, 0, 1, 0)))
        self.assertEqual(rounds_of(((), ((),))), ("ranks", (0,)))


class TestKnot(unittest.TestCase):
    def both(self, net, weaving=()):
        """What is told of a reading and of a machine behind the weaving."""
        reading, machine = Reading(net), Machine(net)
        reading.weave(weaving)
        machine.weave(weaving)
        told = knot(reading)
        self.assertEqual(knot(machine), told)
        self.assertEqual(knot(run=machine), told)
        return told

    def test_of_two(self):
        self.assertEqual(self.both(net_of(((0, 1), (1, 0)), [1], [0])), ("knot", (0, 1)))
        self.assertEqual(self.both(net_of(((1, 2), (2, 1)), [], [1], [0])), ("knot", (1, 2)))
        self.assertEqual(self.both(net_of(ROUND, [], [], [5], [2])), ("knot", (2, 3)))

    def test_of_three(self):
        self.assertEqual(self.both(net_of(((0, 1), (1, 2), (2, 0)), [2], [0], [1])), ("knot", (0, 2, 1)))
        self.assertEqual(self.both(net_of(((1, 0), (2, 1), (0, 2)), [0], [1], [2])), ("knot", (0, 1, 2)))
        self.assertEqual(self.both(net_of(((3, 1), (1, 2), (2, 3)), [], [0], [1], [2])), ("knot", (1, 3, 2)))

    def test_of_four(self):
        self.assertEqual(self.both(net_of(ROUND, [3], [0], [1], [2])), ("knot", (0, 3, 2, 1)))
        there = ((1, 0), (2, 1), (3, 2), (0, 3))
        self.assertEqual(self.both(net_of(there, [0], [1], [2], [3])), ("knot", (0, 1, 2, 3)))
        across = ((2, 0), (3, 1), (1, 2), (0, 3))
        self.assertEqual(self.both(net_of(across, [0], [1], [2], [3])), ("knot", (0, 2, 1, 3)))

    def test_with_the_least_actor(self):
        # There are two knots: 0 with 3, and 1 with 2.
        channels = ((3, 0), (2, 1), (1, 2), (0, 3))
        self.assertEqual(self.both(net_of(channels, [0], [1], [2], [3])), ("knot", (0, 3)))

    def test_others_wait_for_one_in_a_knot(self):
        channels = ((2, 0), (3, 2), (2, 3), (0, 1))
        self.assertEqual(self.both(net_of(channels, [0], [3], [1], [2])), ("knot", (2, 3)))
        self.assertEqual(self.both(net_of(channels, [0], [], [1], [2])), ("knot", (2, 3)))

    def test_open_by_one_waiting(self):
        self.assertEqual(self.both(net_of(((0, 1),), [], [0])), ("open", ((1, 0),)))
        self.assertEqual(self.both(net_of(((1, 0),), [0], [])), ("open", ((0, 1),)))

    def test_open_by_several(self):
        self.assertEqual(self.both(net_of(ROUND, [], [0], [1], [2])), ("open", ((1, 0), (2, 0), (3, 0))))
        self.assertEqual(self.both(net_of(ROUND, [3], [0], [1], [])), ("open", ((0, 3), (1, 3), (2, 3))))
        self.assertEqual(self.both(net_of(ROUND, [4], [], [5], [])), ("open", ((0, 1), (2, 3))))
        self.assertEqual(self.both(net_of(ROUND, [], [0], [5], [])), ("open", ((1, 0), (2, 3))))

    def test_open_where_nobody_waits(self):
        self.assertEqual(self.both(((), ((),))), ("open", ()))
        self.assertEqual(self.both(((), ((TELL,), (), (TELL,))), [0, 2]), ("open", ()))

    def test_waits_for_the_channel_at_which_it_stands(self):
        # Actor 0 takes from 1 first, and comes to wait for 2 alone.
        net = (((1, 0), (2, 0)), ((take(0), take(1)), (("send", 0, "H"),), ()))
        self.assertEqual(self.both(net, [1, 0]), ("open", ((0, 2),)))
        net = (((1, 0), (0, 1)), ((take(0), TELL), (("send", 0, "H"), take(1))))
        self.assertEqual(self.both(net, [1, 0, 0]), ("open", ((1, 0),)))

    def test_knot_behind_some_steps(self):
        net = (((0, 1), (1, 0)), ((TELL, ("send", 0, "G"), take(1), take(1)), (take(0), ("send", 1, "G"), take(0))))
        self.assertEqual(self.both(net, [0, 0, 1, 1, 0]), ("knot", (0, 1)))

    def test_a_ring_need_not_be_a_knot(self):
        net = (((0, 1), (1, 0)), ((("if", "a", (take(1),), ()),), (take(0),)))
        self.assertEqual(rounds_of(net), ("ring", (0, 1)))
        self.assertEqual(self.both(net, [0]), ("open", ((1, 0),)))

    def test_not_still(self):
        net = (((0, 1), (1, 0)), ((TELL, take(1)), (take(0),)))
        for run in (Reading(net), Machine(net)):
            for _ in range(2):
                self.assertRaises(NotStill, knot, run)
            self.assertEqual((run.at(0), run.at(1)), (0, 0))
            run.step(0)
            self.assertEqual(knot(run), ("knot", (0, 1)))

    def test_not_still_by_what_lies_in_a_channel(self):
        net = (((0, 1),), ((("send", 0, "G"),), (take(0), take(0))))
        for run in (Reading(net), Machine(net)):
            run.step(0)
            self.assertRaises(NotStill, knot, run)
            run.step(1)
            self.assertEqual(knot(run), ("open", ((1, 0),)))

    def test_not_still_by_the_last_actor(self):
        net = (((0, 1), (1, 0)), ((take(1),), (take(0),), (), (TELL,)))
        self.assertRaises(NotStill, knot, Reading(net))
        self.assertEqual(self.both(net, [3]), ("knot", (0, 1)))

    def test_told_again_and_nothing_is_changed(self):
        net = net_of(ROUND, [3], [0], [1], [2])
        machine = Machine(net)
        for _ in range(3):
            self.assertEqual(knot(machine), ("knot", (0, 3, 2, 1)))
        self.assertEqual([machine.at(actor) for actor in range(4)], [0] * 4)
        self.assertEqual((machine.steps(), machine.copied()), (0, 0))

    def test_a_machine_that_goes_back(self):
        net = (((0, 1), (1, 0)), ((TELL, take(1)), (take(0),)))
        machine = Machine(net)
        machine.step(0)
        self.assertEqual(knot(machine), ("knot", (0, 1)))
        machine.back()
        self.assertRaises(NotStill, knot, machine)

    def test_a_machine_with_other_code(self):
        net = net_of(((0, 1), (1, 0)), [1], [0])
        code = ((((("take", "G", 1)), (0,)),), ((("tell", "a"), (-1,)),))
        machine = Machine(net, code=code)
        self.assertRaises(NotStill, knot, machine)
        machine.step(1)
        self.assertEqual(knot(machine), ("open", ((0, 1),)))

    def test_drawn(self):
        words = {"knot": 0, "open": 0}
        for seed in range(500):
            draw = Draw(seed)
            net = draw.net(longest=8)
            reading, machine = Reading(net), Machine(net, code=draw.safe_code(net))
            for _ in range(8):
                weaving = draw.weaving(net, 40)
                reading.weave(weaving)
                machine.weave(weaving)
            if not reading.is_still():
                self.assertRaises(NotStill, knot, reading)
                self.assertRaises(NotStill, knot, machine)
                continue
            told = knot(reading)
            self.assertEqual(told, knot_by_hand(reading, net))
            self.assertEqual(knot(machine), told)
            words[told[0]] += 1
            if told[0] == "knot":
                self.assertEqual(rounds_of(net)[0], "ring")
        self.assertGreater(min(words.values()), 20)

    def test_ranks_bar_a_knot(self):
        barred = 0
        for seed in range(300):
            draw = Draw(seed)
            net = draw.net(longest=6)
            if rounds_of(net)[0] == "ring" or not net[0]:
                continue
            machine = Machine(net)
            for _ in range(6):
                machine.weave(draw.weaving(net, 40))
            if machine.is_still():
                word, ends = knot(machine)
                self.assertEqual(word, "open")
                for actor, end in ends:
                    self.assertIsNotNone(machine.waits(actor))
                    self.assertEqual(machine.at(end), -1)
                barred += len(ends) > 0
        self.assertGreater(barred, 10)


if __name__ == "__main__":
    unittest.main()
