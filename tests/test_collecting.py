"""Points 22 and 23: what in a heap is still come to, and what may be collected."""

import unittest

from giveway.charts import is_bar, is_chart, is_way
from giveway.errors import NoActor, NoAddress, NoDeed
from giveway.machine import Machine
from tests.drawn import Draw
from tests.test_machine import NET, NO_ADDRESSES, all_of, done, made
from tests.test_moves import line
from tests.test_reading import NO_ACTORS
from tests.things import ANYTHING, NEVER, spoiled

BOX = (0, 0, 0)
BARE = (BOX,)

# Of actor 0: G is at (0, 4) with a copy of H, (0, 5), in it; H is at (0, 1), K empty, its bare graph hangs in L, at (0, 3).
HELD = (
    ("new", "G"), ("hang", "G", "z", 1, "H", "copy"), ("hang", "L", "z", 0, "K", "give"),
)


class TestHeapCase(unittest.TestCase):
    def test_case(self):
        machine = done(*HELD)
        self.assertEqual(
            machine.heap_case(0),
            (((0, 0), (0, 1), (0, 2), (0, 3), (0, 4), (0, 5)), ((), (), (), (2,), (5,), ()), (1, 3, 4)),
        )
        self.assertEqual(machine.heap_case(1), ((), (), ()))

    def test_straight_within_alone(self):
        machine = done(
            ("hang", "H", "z", 0, "K", "give"), ("hang", "G", "z", 2, "H", "give"), ("hang", "G", "z", 0, "L", "give"),
        )
        self.assertEqual(
            machine.heap_case(0), (((0, 0), (0, 1), (0, 2), (0, 3)), ((1, 3), (2,), (), ()), (0,)))

    def test_nexts_rise(self):
        machine = done(("hang", "G", "z", 0, "K", "give"), ("hang", "G", "z", 1, "H", "give"))
        self.assertEqual(machine.heap_case(0)[1], ((1, 2), (), ()))

    def test_channels_to_it(self):
        machine = made(
            ("hang", "G", "z", 0, "H", "give"), ("send", 0, "G", "give"), ("send", 0, "K", "copy"),
            others=(("take", "X", 0), ("take", "Y", 0), ("send", 1, "Y", "give")),
        )
        machine.weave([0, 0, 0])
        self.assertEqual(machine.heap_case(0), (((0, 2),), ((),), (0,)))
        self.assertEqual(
            machine.heap_case(1), (((0, 0), (0, 1), (0, 3), (1, 0), (1, 1)), ((1,), (), (), (), ()), (0, 2, 3, 4)))
        machine.step(1)
        self.assertEqual(machine.heap_case(1)[2], (0, 2, 4))
        machine.step(1)
        self.assertEqual(machine.heap_case(1)[2], (0, 2))
        machine.step(1)
        self.assertEqual(machine.heap_case(1), (((0, 0), (0, 1), (1, 0), (1, 1)), ((1,), (), (), ()), (0,)))
        self.assertEqual(machine.heap_case(actor=0), (((0, 2), (0, 3)), ((), ()), (0, 1)))

    def test_is_of_charts(self):
        for seed in range(60):
            draw = Draw(seed)
            net = draw.net()
            machine = Machine(net)
            machine.weave(draw.weaving(net, 50))
            for actor in range(len(net[1])):
                addresses, chart, starts = machine.heap_case(actor)
                self.assertEqual(list(addresses), machine.heap(actor))
                self.assertIs(is_chart(chart), True)
                self.assertIs(is_bar(chart, starts, (), machine.apart()[actor]), True)
                self.assertEqual(len(chart), len(addresses))


class TestPaper(unittest.TestCase):
    def test_papers(self):
        machine = done(*HELD)
        wanted = (
            ((0, 0), ("bar", (1, 2, 3, 4, 5))), ((0, 1), ("way", (1,))), ((0, 2), ("way", (3, 2))), ((0, 3), ("way", (3,))),
            ((0, 4), ("way", (4,))), ((0, 5), ("way", (4, 5))),
        )
        for address, told in wanted:
            self.assertEqual(machine.paper(0, address), told)
        self.assertEqual(machine.paper(actor=0, address=(0, 5)), ("way", (4, 5)))

    def test_papers_are_right(self):
        for seed in range(40):
            draw = Draw(seed)
            net = draw.net()
            machine = Machine(net, code=draw.safe_code(net))
            machine.weave(draw.weaving(net, 50))
            for actor in range(len(net[1])):
                addresses, chart, starts = machine.heap_case(actor)
                freed = machine.collect(actor)
                machine.back()
                for point, address in enumerate(addresses):
                    word, points = machine.paper(actor, address)
                    self.assertEqual(word == "bar", address in freed)
                    judge = is_way if word == "way" else is_bar
                    self.assertIs(judge(chart, starts, (point,), points), True)

    def test_no_address(self):
        machine = done(*HELD, ("send", 0, "H", "give"))
        for thing in NO_ADDRESSES + ANYTHING[len(NEVER):]:
            if thing != (0, 1):
                self.assertRaises(NoAddress, machine.paper, 0, thing)
            self.assertRaises(NoActor, machine.paper, 2, thing)
        self.assertRaises(NoAddress, machine.paper, 0, (0, 1))
        self.assertEqual(machine.paper(1, (0, 1)), ("way", (0,)))
        self.assertRaises(NoAddress, machine.paper, 1, (0, 0))

    def test_a_collected_one_is_none(self):
        machine = done(*HELD)
        machine.collect(0)
        self.assertRaises(NoAddress, machine.paper, 0, (0, 0))
        machine.back()
        self.assertEqual(machine.paper(0, (0, 0))[0], "bar")


class TestCollect(unittest.TestCase):
    def test_takes_the_free_ones_out(self):
        machine = done(*HELD)
        self.assertEqual(machine.collect(0), [(0, 0)])
        self.assertEqual(machine.heap(0), [(0, 1), (0, 2), (0, 3), (0, 4), (0, 5)])
        self.assertEqual(machine.collect(0), [])
        self.assertEqual(machine.collect(actor=1), [])

    def test_free_ones_within_free_ones(self):
        machine = done(("hang", "G", "z", 0, "H", "give"), ("new", "G"), ("hang", "G", "z", 0, "K", "give"), ("new", "G"))
        self.assertEqual(machine.heap(0), [(0, 0), (0, 1), (0, 2), (0, 3), (0, 4)])
        self.assertEqual(machine.collect(0), [(0, 0), (0, 1), (0, 2), (0, 3)])
        self.assertEqual(machine.heap(0), [(0, 4)])

    def test_kept_within_a_free_one_no_more(self):
        machine = done(("hang", "G", "z", 0, "H", "give"), ("pick", "K", "G", "z", 0, "give"))
        self.assertEqual(machine.collect(0), [(0, 0), (0, 2)])
        self.assertEqual(machine.heap(0), [(0, 1)])

    def test_what_lies_in_a_channel_is_kept(self):
        machine = done(("hang", "G", "z", 0, "H", "give"), ("send", 0, "G", "give"))
        self.assertEqual((machine.collect(1), machine.collect(0)), ([], []))
        self.assertEqual(machine.heap(1), [(0, 0), (0, 1)])
        self.assertEqual(machine.channel(0), [((BARE, 0, 0),)])

    def test_what_was_taken_and_dropped_is_free(self):
        machine = done(("send", 0, "G", "give"), others=(("take", "K", 0), ("new", "K")))
        machine.weave([1, 1])
        self.assertEqual(machine.collect(1), [(0, 0), (1, 0)])
        self.assertEqual(machine.heap(1), [(1, 1)])

    def test_the_told_ones_are_not_given_anew(self):
        machine = made(("new", "G"), ("new", "G"), ("new", "G"))
        machine.step(0)
        self.assertEqual(machine.collect(0), [(0, 0)])
        machine.step(0)
        self.assertEqual((machine.address(0, "G"), machine.collect(0)), ((0, 2), [(0, 1)]))
        machine.step(0)
        self.assertEqual(machine.heap(0), [(0, 2), (0, 3)])

    def test_it_is_a_deed_but_no_step(self):
        machine = made(*HELD)
        self.assertEqual(machine.collect(0), [])
        self.assertEqual(machine.steps(), 0)
        self.assertIsNone(machine.back())
        self.assertRaises(NoDeed, machine.back)
        machine.step(0)
        ahead = all_of(machine)
        machine.collect(0)
        machine.back()
        self.assertEqual(all_of(machine), ahead)

    def test_a_list_of_the_askers_own(self):
        machine = done(*HELD)
        freed = machine.collect(0)
        freed.append((0, 1))
        self.assertEqual(machine.collect(0), [])
        self.assertEqual(machine.owner((0, 1)), 0)

    def test_no_actor(self):
        machine = done(*HELD)
        ahead = all_of(machine)
        for thing in NO_ACTORS:
            self.assertRaises(NoActor, machine.collect, thing)
            self.assertRaises(NoActor, machine.heap_case, thing)
        self.assertEqual(all_of(machine), ahead)
        machine.back()
        self.assertEqual(machine.steps(), len(HELD) - 1)


class TestApart(unittest.TestCase):
    def setUp(self):
        self.machine = done(*HELD, ("send", 0, "H", "copy"), others=(("take", "X", 0),))

    def test_apart(self):
        self.assertEqual(self.machine.apart(), ((1, 2, 3, 4, 5), (0, 1)))
        self.assertEqual((self.machine.heap(0)[0], self.machine.heap(1)), ((0, 0), [(0, 6), (1, 0)]))
        self.machine.step(1)
        self.assertEqual(self.machine.apart(), ((1, 2, 3, 4, 5), (0,)))
        self.machine.collect(0)
        self.assertEqual(self.machine.apart(), ((0, 1, 2, 3, 4), (0,)))

    def test_empty_heaps(self):
        machine = Machine(NET, code=((), ()))
        self.assertEqual(machine.apart(), ((), ()))
        self.assertIs(machine.is_apart(((), ())), True)
        for thing in ((), ((),), ((), (), ()), [(), ()], ((), []), ((), (0,)), None):
            self.assertIs(machine.is_apart(thing), False)

    def test_is_apart(self):
        self.assertIs(self.machine.is_apart(self.machine.apart()), True)
        self.assertIs(self.machine.is_apart(thing=((1, 2, 3, 4, 5), (0, 1))), True)
        self.assertIs(self.machine.is_apart(((1, 2, 3, 4, 5), (False, True))), False)
        self.assertIs(self.machine.is_apart(((True, 2, 3, 4, 5), (0, 1))), False)

    def test_a_bar_of_more_points_shows_nothing(self):
        self.assertIs(self.machine.is_apart(((0, 1, 2, 3, 4, 5), (0, 1))), False)

    def test_bent(self):
        right = self.machine.apart()
        for thing in spoiled(right):
            self.assertIs(self.machine.is_apart(thing), False, thing)
        for thing in (
            (), right[:1], right + ((),), right[::-1], ((1, 2, 3, 4), (0, 1)), ((1, 2, 3, 4, 5, 6), (0, 1)),
            ((1, 2, 3, 5, 4), (0, 1)), ((1, 2, 3, 4, 5), (0, 0, 1)), ((1, 2, 3, 4, 5), ()),
        ):
            self.assertIs(self.machine.is_apart(thing), False, thing)

    def test_anything_is_answered(self):
        for thing in ANYTHING:
            self.assertIs(self.machine.is_apart(thing), False)
            self.assertIs(self.machine.is_apart((thing, thing)), False)

    def test_asking_changes_nothing(self):
        ahead = all_of(self.machine)
        self.machine.apart()
        self.machine.is_apart(None)
        self.machine.paper(0, (0, 0))
        self.assertEqual(all_of(self.machine), ahead)

    def test_a_heap_of_many(self):
        machine = Machine(NET, code=(((("new", "G"), (0,)),), line(("show", "G"))))
        for _ in range(10):
            machine.weave([0] * 400)
        self.assertEqual(len(machine.heap(0)), 4001)
        self.assertEqual(machine.apart(), ((4000,), (0,)))
        self.assertEqual(len(machine.collect(0)), 4000)
        self.assertEqual(machine.heap(0), [(0, 4000)])
        machine.back()
        self.assertEqual(len(machine.heap(0)), 4001)


if __name__ == "__main__":
    unittest.main()
