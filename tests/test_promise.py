"""Point 3: the plain reading, the machine and its heaps, side by side, and beside a second plain reading."""

import unittest

from giveway.charts import is_bar, is_way
from giveway.code import flat, is_code, is_own
from giveway.graphs import is_graph
from giveway.machine import Machine
from giveway.moves import is_safe, least
from giveway.reading import Reading, outcome
from tests.drawn import GRAPHS, NUMBERS, Draw
from tests.oracle import Oracle

NETS = 150


def told_of(run, net):
    """All that a reading tells; of a machine, too."""
    channels, actors = net
    return {
        "actors": [
            (run.at(actor), run.waits(actor), run.told(actor), [run.holds(actor, name) for name in NUMBERS])
            for actor in range(len(actors))
        ],
        "channels": [run.channel(m) for m in range(len(channels))],
        "still": run.is_still(),
    }


def graphs_of(run, net):
    return [[run.holds(actor, name) for name in GRAPHS] for actor in range(len(net[1]))]


def all_of(machine, net):
    """All that a machine tells but for back and trial."""
    actors = range(len(net[1]))
    heaps = [machine.heap(actor) for actor in actors]
    return (
        told_of(machine, net), graphs_of(machine, net), heaps, machine.copied(), machine.steps(), machine.apart(),
        [[machine.address(actor, name) for name in GRAPHS] for actor in actors],
        [[(machine.boxes(address), machine.owner(address)) for address in heap] for heap in heaps],
        [machine.heap_case(actor) for actor in actors],
    )


def come_to(machine, actor):
    """The addresses that are come to from the names of an actor and the channels to it, walked by boxes alone."""
    edge = [machine.address(actor, name) for name in GRAPHS if machine.address(actor, name) is not None]
    addresses, _, starts = machine.heap_case(actor)
    edge += [addresses[start] for start in starts if addresses[start] not in edge]
    found = []
    while edge:
        address = edge.pop()
        found.append(address)
        for box in machine.boxes(address):
            edge += [place[1] for place in box if isinstance(place, tuple) and place[0] == "at"]
    return found


class TestPromise(unittest.TestCase):
    def assert_same(self, machine, reading, net, seed):
        self.assertEqual(told_of(machine, net), told_of(reading, net), seed)
        for of_machine, of_reading in zip(graphs_of(machine, net), graphs_of(reading, net)):
            for held, wanted in zip(of_machine, of_reading):
                if held is not None:
                    self.assertEqual(held, wanted, seed)

    def test_reading_is_the_second_reading(self):
        for seed in range(2 * NETS):
            draw = Draw(seed)
            net = draw.net()
            reading, oracle = Reading(net), Oracle(net)
            for actor in draw.weaving(net, 80):
                self.assertIs(reading.step(actor), oracle.step(actor), seed)
                self.assertEqual(told_of(reading, net), told_of(oracle, net), seed)
                self.assertEqual(graphs_of(reading, net), graphs_of(oracle, net), seed)

    def test_machine_is_the_reading_step_for_step(self):
        for seed in range(NETS):
            draw = Draw(seed)
            net = draw.net()
            for code in (None, flat(net), draw.safe_code(net)):
                machine, reading, oracle = Machine(net, code=code), Reading(net), Oracle(net)
                self.assert_same(machine, reading, net, seed)
                for actor in draw.weaving(net, 60):
                    self.assertIs(machine.step(actor), reading.step(actor), seed)
                    oracle.step(actor)
                    self.assert_same(machine, reading, net, seed)
                    self.assert_same(machine, oracle, net, seed)

    def test_machine_is_the_reading_with_collecting(self):
        for seed in range(NETS):
            draw = Draw(seed)
            net = draw.net()
            machine, reading = Machine(net), Reading(net)
            for actor in draw.weaving(net, 60):
                self.assertIs(machine.step(actor), reading.step(actor), seed)
                if draw.many(0, 2) == 0:
                    machine.collect(draw.many(0, len(net[1]) - 1))
                self.assert_same(machine, reading, net, seed)

    def test_weavings_as_a_whole(self):
        for seed in range(NETS):
            draw = Draw(seed)
            net = draw.net()
            machine, reading = Machine(net), Reading(net)
            for many in (0, 30, 100):
                weaving = draw.weaving(net, many)
                tried = machine.trial(tuple(weaving))
                self.assertEqual(reading.weave(weaving), tried)
                self.assertEqual(machine.weave(weaving), tried)
            self.assert_same(machine, reading, net, seed)

    def test_no_address_is_come_to_from_two_actors(self):
        for seed in range(NETS):
            draw = Draw(seed)
            net = draw.net()
            machine = Machine(net, code=draw.safe_code(net))
            for actor in draw.weaving(net, 40):
                machine.step(actor)
                found = [address for actor in range(len(net[1])) for address in come_to(machine, actor)]
                self.assertEqual(len(found), len(set(found)), seed)
                for owner in range(len(net[1])):
                    kept = sorted(come_to(machine, owner))
                    heap = machine.heap(owner)
                    self.assertEqual([heap[point] for point in machine.apart()[owner]], kept, seed)
                    self.assertTrue(all(machine.owner(address) == owner for address in kept), seed)

    def test_graphs_are_graphs(self):
        for seed in range(NETS):
            draw = Draw(seed)
            net = draw.net()
            machine = Machine(net)
            machine.weave(draw.weaving(net, 150))
            for actor in range(len(net[1])):
                for worth in machine.told(actor) + graphs_of(machine, net)[actor]:
                    self.assertTrue(worth is None or isinstance(worth, int) or is_graph(worth))

    def test_collecting_changes_nothing_else(self):
        for seed in range(NETS):
            draw = Draw(seed)
            net = draw.net()
            machine = Machine(net)
            machine.weave(draw.weaving(net, 60))
            for actor in range(len(net[1])):
                ahead = all_of(machine, net)
                kept = come_to(machine, actor)
                free = [address for address in machine.heap(actor) if address not in kept]
                self.assertEqual(machine.collect(actor), free)
                behind = all_of(machine, net)
                for part in (0, 1, 3, 4, 6):
                    self.assertEqual(behind[part], ahead[part])
                self.assertEqual(machine.heap(actor), sorted(kept))
                for other in range(len(net[1])):
                    if other != actor:
                        for part in (2, 5, 7, 8):
                            self.assertEqual(behind[part][other], ahead[part][other])

    def test_collecting_hangs_on_that_heap_alone(self):
        # What is collected elsewhere, or when, changes nothing: the same addresses are free in the end.
        for seed in range(NETS // 2):
            draw = Draw(seed)
            net = draw.net()
            often, once = Machine(net), Machine(net)
            freed = [[] for _ in net[1]]
            for turn in draw.weaving(net, 60):
                often.step(turn)
                once.step(turn)
                actor = draw.many(0, len(net[1]) - 1)
                freed[actor] += often.collect(actor)
            for actor in reversed(range(len(net[1]))):
                freed[actor] += often.collect(actor)
                self.assertEqual(sorted(freed[actor]), once.collect(actor))
                self.assertEqual(often.heap(actor), once.heap(actor))

    def test_papers_of_addresses(self):
        for seed in range(NETS // 2):
            draw = Draw(seed)
            net = draw.net()
            machine = Machine(net, code=draw.safe_code(net))
            machine.weave(draw.weaving(net, 60))
            for actor in range(len(net[1])):
                kept = come_to(machine, actor)
                addresses, chart, starts = machine.heap_case(actor)
                for point, address in enumerate(addresses):
                    word, points = machine.paper(actor, address)
                    self.assertEqual(word, "way" if address in kept else "bar")
                    judge = is_way if word == "way" else is_bar
                    self.assertIs(judge(chart, starts, (point,), points), True)

    def test_back_to_the_begin(self):
        for seed in range(NETS // 3):
            draw = Draw(seed)
            net = draw.net()
            machine = Machine(net, code=draw.safe_code(net))
            stood = [all_of(machine, net)]
            for actor in draw.weaving(net, 40):
                if machine.step(actor):
                    stood.append(all_of(machine, net))
                if draw.many(0, 3) == 0:
                    machine.collect(actor)
                    stood.append(all_of(machine, net))
                if draw.many(0, 5) == 0 and len(stood) > 1:
                    machine.back()
                    stood.pop()
                if draw.many(0, 5) == 0:
                    machine.trial(draw.weaving(net, 20))
                self.assertEqual(all_of(machine, net), stood[-1], seed)
            while len(stood) > 1:
                machine.back()
                stood.pop()
                self.assertEqual(all_of(machine, net), stood[-1], seed)

    def test_trial_tells_what_weave_would(self):
        for seed in range(NETS):
            draw = Draw(seed)
            net = draw.net()
            machine = Machine(net)
            machine.weave(draw.weaving(net, 10))
            ahead = all_of(machine, net)
            weaving = draw.weaving(net, 50)
            tried = machine.trial(weaving)
            self.assertEqual(all_of(machine, net), ahead)
            self.assertEqual(machine.weave(weaving), tried)

    def test_whole_weavings_come_to_one_end(self):
        whole = 0
        for seed in range(NETS):
            draw = Draw(seed)
            net = draw.net(longest=8, deepest=2)
            if outcome(net, most=120)[0] == "more":
                continue
            whole += 1
            code = draw.safe_code(net)
            ends = []
            for _ in range(4):
                machine = Machine(net, code=code)
                while not machine.is_still():
                    machine.weave(draw.weaving(net, 20))
                ends.append(all_of(machine, net))
            self.assertTrue(all(end == ends[0] for end in ends), seed)
        self.assertGreater(whole, NETS // 3)

    def test_least_code_copies_no_more_than_any_safe_one(self):
        safe = 0
        for seed in range(4 * NETS):
            draw = Draw(seed)
            net = draw.net(longest=5)
            fewest = least(net)
            self.assertTrue(is_code(net, fewest) and is_own(net, fewest) and is_safe(net, fewest))
            code = draw.ways(fewest)
            if not is_safe(net, code):
                continue
            safe += 1
            for rows, least_rows in zip(code, fewest):
                for (deed, _), (least_deed, _) in zip(rows, least_rows):
                    if least_deed[0] in ("let", "hang", "pick", "send") and least_deed[-1] == "copy":
                        self.assertEqual(deed[-1], "copy")
        self.assertGreater(safe, 100)

    def test_least_code_copies_no_more_boxes(self):
        for seed in range(NETS):
            draw = Draw(seed)
            net = draw.net()
            weaving = draw.weaving(net, 100)
            counts = []
            for code in (None, draw.safe_code(net), flat(net)):
                machine = Machine(net, code=code)
                machine.weave(weaving)
                counts.append(machine.copied())
            self.assertEqual(counts, sorted(counts))


if __name__ == "__main__":
    unittest.main()
