"""Points 2, 3 and 9 over the whole program, on nets drawn by a fixed rule."""

import copy
import unittest

from giveway.charts import is_bar, is_way
from giveway.code import flat, is_code, is_own
from giveway.desk import Desk
from giveway.errors import NoNet
from giveway.machine import Machine
from giveway.moves import case_of, is_safe, least, paper_of
from giveway.nets import is_net
from giveway.reading import Reading, outcome
from giveway.texts import graph_text, net_text, read_graph, read_net
from giveway.waits import knot, rounds_of, waiting_chart
from giveway.weavings import exchanges, is_full, is_whole, leads
from tests.drawn import GRAPHS, NUMBERS, Draw
from tests.test_promise import all_of, graphs_of, told_of
from tests.things import ANYTHING, NEVER, spoiled

NETS = 80


def renumbered(statement, to):
    """The statement with the numbers of channels led along."""
    if statement[0] == "send":
        return ("send", to[statement[1]], statement[2])
    if statement[0] == "take":
        return ("take", statement[1], to[statement[2]])
    return tuple(
        tuple(renumbered(inner, to) for inner in part) if isinstance(part, tuple) else part for part in statement
    )


def block_with(block, to):
    return tuple(renumbered(statement, to) for statement in block)


def of_actor(run, actor):
    """All that a run tells of one actor."""
    told = (run.at(actor), run.told(actor), [run.holds(actor, name) for name in NUMBERS + GRAPHS])
    waits = run.waits(actor)
    return told + (None if waits is None else run.channel(waits),)


def side_by_side(one, other):
    """Two nets in one: the actors and channels of the other come behind those of the first."""
    more, channels = len(one[1]), len(one[0])
    to = {m: m + channels for m in range(len(other[0]))}
    return (
        one[0] + tuple((sender + more, taker + more) for sender, taker in other[0]),
        one[1] + tuple(block_with(block, to) for block in other[1]),
    )


def drawn_pair(draw):
    """Two nets that have room in one."""
    while True:
        one, other = draw.net(longest=6), draw.net(longest=6)
        if len(one[1]) + len(other[1]) <= 4 and len(one[0]) + len(other[0]) <= 6:
            return one, other


class TestTexts(unittest.TestCase):
    def test_written_and_read_nets_run_alike(self):
        for seed in range(NETS):
            draw = Draw(seed)
            net = draw.net()
            again = read_net(net_text(net))
            weaving = draw.weaving(net, 100)
            runs = [Reading(net), Reading(again)]
            self.assertEqual(runs[0].weave(weaving), runs[1].weave(weaving))
            self.assertEqual(told_of(runs[0], net), told_of(runs[1], again))
            self.assertEqual(graphs_of(runs[0], net), graphs_of(runs[1], again))
            machines = [Machine(net), Machine(again)]
            self.assertEqual(machines[0].weave(weaving), machines[1].weave(weaving))
            self.assertEqual(all_of(machines[0], net), all_of(machines[1], again))

    def test_written_graphs_are_worths(self):
        for seed in range(NETS):
            draw = Draw(seed)
            net = draw.net()
            machine = Machine(net)
            machine.weave(draw.weaving(net, 100))
            for actor in range(len(net[1])):
                for worth in machine.told(actor):
                    if isinstance(worth, tuple):
                        self.assertEqual(read_graph(graph_text(worth)), worth)


class TestActorsInAnotherOrder(unittest.TestCase):
    def led_along(self, draw, net):
        """The net with its actors and channels in another order, and where each of them is then."""
        channels, actors = net
        order = draw.chance.sample(range(len(actors)), len(actors))
        lanes = draw.chance.sample(range(len(channels)), len(channels))
        actor_to = {actor: place for place, actor in enumerate(order)}
        lane_to = {m: place for place, m in enumerate(lanes)}
        other = (
            tuple((actor_to[channels[m][0]], actor_to[channels[m][1]]) for m in lanes),
            tuple(block_with(actors[actor], lane_to) for actor in order),
        )
        self.assertTrue(is_net(other))
        return other, actor_to, lane_to

    def test_does_the_same(self):
        for seed in range(NETS):
            draw = Draw(seed)
            net = draw.net()
            other, actor_to, lane_to = self.led_along(draw, net)
            weaving = draw.weaving(net, 120)
            along = [actor_to[actor] for actor in weaving]
            for one, two in ((Reading(net), Reading(other)), (Machine(net), Machine(other))):
                done = one.weave(weaving)
                self.assertEqual(tuple(actor_to[actor] for actor in done), two.weave(along))
                for actor in range(len(net[1])):
                    self.assertEqual(of_actor(one, actor), of_actor(two, actor_to[actor]))
                for m in range(len(net[0])):
                    self.assertEqual(one.channel(m), two.channel(lane_to[m]))
                self.assertEqual(one.is_still(), two.is_still())

    def test_addresses_are_led_along(self):
        for seed in range(NETS):
            draw = Draw(seed)
            net = draw.net()
            other, actor_to, lane_to = self.led_along(draw, net)
            weaving = draw.weaving(net, 80)
            one, two = Machine(net), Machine(other)
            one.weave(weaving)
            two.weave([actor_to[actor] for actor in weaving])
            self.assertEqual((one.copied(), one.steps()), (two.copied(), two.steps()))
            for actor in range(len(net[1])):
                heap = sorted((actor_to[maker], n) for maker, n in one.heap(actor))
                self.assertEqual(heap, two.heap(actor_to[actor]))
                freed = sorted((actor_to[maker], n) for maker, n in one.collect(actor))
                self.assertEqual(freed, two.collect(actor_to[actor]))

    def test_weavings_and_waits_are_led_along(self):
        for seed in range(NETS):
            draw = Draw(seed)
            net = draw.net(longest=6)
            other, actor_to, lane_to = self.led_along(draw, net)
            weaving = draw.weaving(net, 30)
            along = [actor_to[actor] for actor in weaving]
            self.assertIs(is_full(net, weaving), is_full(other, along))
            self.assertIs(is_whole(net, weaving), is_whole(other, along))
            self.assertEqual(
                {(actor_to[a], actor_to[b]) for a, nexts in enumerate(waiting_chart(net)) for b in nexts},
                {(a, b) for a, nexts in enumerate(waiting_chart(other)) for b in nexts},
            )
            self.assertEqual(rounds_of(net)[0], rounds_of(other)[0])


class TestSideBySide(unittest.TestCase):
    def test_each_does_what_it_does_alone(self):
        for seed in range(NETS):
            draw = Draw(seed)
            one, other = drawn_pair(draw)
            both = side_by_side(one, other)
            self.assertTrue(is_net(both))
            more = len(one[1])
            weaving = draw.weaving(both, 160)
            of_one = [actor for actor in weaving if actor < more]
            of_other = [actor - more for actor in weaving if actor >= more]
            for make in (Reading, Machine):
                whole, first, second = make(both), make(one), make(other)
                done = whole.weave(weaving)
                self.assertEqual(tuple(actor for actor in done if actor < more), first.weave(of_one))
                self.assertEqual(tuple(actor - more for actor in done if actor >= more), second.weave(of_other))
                for actor in range(more):
                    self.assertEqual(of_actor(whole, actor), of_actor(first, actor))
                for actor in range(len(other[1])):
                    self.assertEqual(of_actor(whole, actor + more), of_actor(second, actor))
                self.assertEqual(whole.is_still(), first.is_still() and second.is_still())

    def test_machines_and_their_heaps(self):
        for seed in range(NETS):
            draw = Draw(seed)
            one, other = drawn_pair(draw)
            both = side_by_side(one, other)
            more = len(one[1])
            weaving = draw.weaving(both, 120)
            whole, first, second = Machine(both), Machine(one), Machine(other)
            whole.weave(weaving)
            first.weave([actor for actor in weaving if actor < more])
            second.weave([actor - more for actor in weaving if actor >= more])
            self.assertEqual(whole.copied(), first.copied() + second.copied())
            self.assertEqual(whole.steps(), first.steps() + second.steps())
            self.assertEqual(whole.apart(), first.apart() + second.apart())
            for actor in range(more):
                self.assertEqual(whole.heap_case(actor), first.heap_case(actor))
            for actor in range(len(other[1])):
                addresses, chart, starts = second.heap_case(actor)
                led = tuple((maker + more, n) for maker, n in addresses)
                self.assertEqual(whole.heap_case(actor + more), (led, chart, starts))

    def test_code_is_that_of_each(self):
        for seed in range(NETS):
            one, other = drawn_pair(Draw(seed))
            both = side_by_side(one, other)
            self.assertEqual(least(both)[:len(one[1])], least(one))
            self.assertEqual(len(least(both)), len(one[1]) + len(other[1]))


class TestOneEnd(unittest.TestCase):
    def test_each_weaving_on_the_way_of_a_row(self):
        walked = 0
        for seed in range(NETS):
            draw = Draw(seed)
            net = draw.net(longest=5, deepest=2)
            end, one = outcome(net, most=40)
            if end == "more":
                continue
            reading, other = Reading(net), ()
            while not reading.is_still():
                other += reading.weave(draw.weaving(net, 10))
            code = draw.safe_code(net)
            wanted = None
            there = list(one)
            row = exchanges(net, one, other)
            self.assertIs(leads(net, one, other, row), True)
            for p in [None] + row:
                if p is not None:
                    there[p], there[p + 1] = there[p + 1], there[p]
                self.assertIs(is_full(net, there), True)
                self.assertIs(is_whole(net, there), True)
                machine = Machine(net, code=code)
                self.assertEqual(machine.weave(there), tuple(there))
                told = all_of(machine, net) + (knot(machine),)
                wanted = told if wanted is None else wanted
                self.assertEqual(told, wanted)
                walked += 1
            self.assertEqual(there, list(other))
        self.assertGreater(walked, 300)

    def test_weavings_that_are_not_full_come_to_it_too(self):
        for seed in range(NETS):
            draw = Draw(seed)
            net = draw.net(longest=5, deepest=2)
            end, one = outcome(net, most=25)
            if end == "more":
                continue
            loose = draw.weaving(net, 40)
            if is_whole(net, loose):
                machines = [Machine(net), Machine(net)]
                machines[0].weave(one)
                machines[1].weave(loose)
                self.assertEqual(all_of(machines[0], net), all_of(machines[1], net))


class TestWaysAndBars(unittest.TestCase):
    def test_one_of_them_is_there_and_never_both(self):
        for seed in range(NETS):
            draw = Draw(seed)
            for rows in least(draw.net()):
                for row, (deed, _) in enumerate(rows):
                    if deed[0] not in ("let", "hang", "pick", "send"):
                        continue
                    chart, starts, goals = case_of(rows, row)
                    word, points = paper_of(rows, row)
                    self.assertIs((is_way if word == "way" else is_bar)(chart, starts, goals, points), True)
                    self.assertEqual(word == "way", deed[-1] == "copy")
                    # Whatever points: where there is a way no bar is one, and the other way about.
                    some = tuple(point for point in range(len(chart)) if draw.many(0, 1))
                    wide = tuple(range(len(chart)))
                    for thing in (some, wide, ()):
                        if word == "way":
                            self.assertIs(is_bar(chart, starts, goals, thing), False)
                        else:
                            self.assertIs(is_way(chart, starts, goals, thing), False)


class TestNoNet(unittest.TestCase):
    net = (((0, 1),), ((("send", 0, "G"), ("if", "a", (("tell", "a"),), ())), (("take", "G", 0),)))

    # Everything that is handed a net, with whatever wrong things behind it.
    handed = (
        Reading, outcome, flat, least, Machine, waiting_chart, rounds_of, net_text,
        lambda net: outcome(net, most=None),
        lambda net: is_code(net, None),
        lambda net: is_own(net, None),
        lambda net: is_safe(net, None),
        lambda net: least(net, ()),
        lambda net: least(net, code=[None]),
        lambda net: Machine(net, code=()),
        lambda net: Machine(net, code={}),
        lambda net: is_full(net, None),
        lambda net: is_whole(net, [9] * 41),
        lambda net: exchanges(net, None, [1]),
        lambda net: exchanges(net, [1], None),
        lambda net: leads(net, None, [1], None),
        lambda net: leads(net, [], [], []),
    )

    def test_of_anything(self):
        for thing in ANYTHING:
            if is_net(thing):
                continue
            for call in self.handed:
                self.assertRaises(NoNet, call, thing)
            if thing is not None:
                self.assertRaises(NoNet, Desk, thing)

    def test_spoiled_nets(self):
        for thing in spoiled(self.net, NEVER[:8]):
            if is_net(thing):
                continue
            for call in self.handed:
                self.assertRaises(NoNet, call, thing)
            self.assertRaises(NoNet, Desk, thing)

    def test_a_net_is_none_of_these(self):
        for call in self.handed[:8] + (Desk,):
            call(self.net)


class TestNothingHangsOnWhatIsHandedIn(unittest.TestCase):
    def test_lists_that_are_changed_later(self):
        net = TestNoNet.net
        weaving = [0, 0, 1]
        kept = copy.deepcopy(weaving)
        reading, machine = Reading(net), Machine(net)
        for run in (reading, machine):
            self.assertEqual(run.weave(weaving), (0, 0, 1))
        machine.trial(weaving)
        row = exchanges(net, weaving, [0, 1, 0])
        self.assertEqual(weaving, kept)
        told = [reading.told(0), machine.heap(1)]
        weaving[:] = [None] * 3
        self.assertEqual([reading.told(0), machine.heap(1)], told)
        row.clear()
        self.assertEqual(exchanges(net, kept, [0, 1, 0]), [1])

    def test_told_again(self):
        for seed in range(20):
            draw = Draw(seed)
            net = draw.net(longest=6)
            for ask in (net_text, waiting_chart, rounds_of, flat, least, outcome):
                self.assertEqual(ask(net), ask(net))


if __name__ == "__main__":
    unittest.main()
