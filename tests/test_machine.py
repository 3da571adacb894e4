"""Points 18 to 21: the machine."""

import unittest

from giveway.code import flat
from giveway.errors import NoActor, NoAddress, NoChannel, NoCode, NoDeed, NoName, NoNet, NoWeaving, Unsafe
from giveway.machine import Machine
from giveway.moves import least, must_copy, unsafe
from giveway.nets import is_net
from giveway.reading import Reading
from tests.drawn import Draw
from tests.test_code import WRONG
from tests.test_moves import line
from tests.test_reading import NO_ACTORS, NO_NAMES, NO_WEAVINGS
from tests.things import ANYTHING, GREAT, NEVER, spoiled

BOX = (0, 0, 0)
BARE = (BOX,)
TWO = (BOX, BOX)
NET = (((0, 1), (1, 0)), ((), ()))
TELL = ("tell", "a")

# The names "one" and "z" hold 0 here; "far" holds the number of no box.
FAR = ("num", "far", 7)

NO_ADDRESSES = NEVER + (
    0, "", (), (0,), (0, 0, 0), (0, 99), (1, 99), (2, 0), (-1, 0), (0, -1), (0, GREAT), [0, 0], (0, True), (True, 0),
    (False, False), (0, "0"), (0, None), (0, [0]), ([0], 0), ((0, 0),), ("at", (0, 0)), {(0, 0): 0}, (0, {}), ((), ()),
)


def made(*deeds, others=()):
    """A machine whose actor 0 does these deeds in a line, and actor 1 the others."""
    return Machine(NET, code=(line(*deeds), line(*others)))


def done(*deeds, others=()):
    """The same, all deeds of actor 0 done."""
    machine = made(*deeds, others=others)
    machine.weave([0] * len(deeds))
    return machine


def heaps_of(machine):
    """What lies in the heaps, addresses with boxes."""
    return [{address: machine.boxes(address) for address in machine.heap(actor)} for actor in (0, 1)]


def addresses_of(machine, names="GHKLM", actor=0):
    return [machine.address(actor, name) for name in names]


def all_of(machine):
    return (
        heaps_of(machine), [addresses_of(machine, actor=actor) for actor in (0, 1)],
        [(machine.at(a), machine.waits(a), machine.told(a), machine.holds(a, "a"), machine.heap_case(a)) for a in (0, 1)],
        [machine.channel(m) for m in (0, 1)], machine.copied(), machine.steps(), machine.is_still(),
    )


class TestBegin(unittest.TestCase):
    def test_an_address_for_each_name(self):
        machine = made(
            ("show", "Ba"), ("hang", "B", "a", 0, "Ab", "give"), ("new", "A"), others=(("new", "G"), ("show", "G")),
        )
        self.assertEqual([machine.address(0, name) for name in ("A", "Ab", "B", "Ba")], [(0, 0), (0, 1), (0, 2), (0, 3)])
        self.assertEqual(machine.address(1, "G"), (1, 0))
        self.assertEqual((machine.heap(0), machine.heap(1)), ([(0, 0), (0, 1), (0, 2), (0, 3)], [(1, 0)]))
        for n in range(4):
            self.assertEqual((machine.boxes((0, n)), machine.owner((0, n))), (BARE, 0))
        self.assertEqual(machine.owner((1, 0)), 1)
        self.assertEqual((machine.copied(), machine.steps()), (0, 0))

    def test_names_of_each_deed(self):
        deeds = (
            ("new", "A"), ("let", "B", "C", "copy"), ("add", "D", "a"), ("put", "E", "a", 0, "b"), ("tie", "F", "a", 0, "b"),
            ("hang", "G", "a", 0, "H", "copy"), ("get", "a", "I", "b", 0), ("sort", "a", "J", "b", 0),
            ("pick", "K", "L", "a", 0, "copy"), ("send", 0, "M", "copy"), ("take", "N", 1), ("show", "O"),
            ("num", "a", 0), ("sum", "a", "b", "+", "c"), ("tell", "a"), ("test", "a"),
        )
        machine = made(*deeds)
        self.assertEqual([machine.address(0, name) for name in "ABCDEFGHIJKLMNO"], [(0, n) for n in range(15)])
        self.assertEqual(len(machine.heap(0)), 15)

    def test_names_of_rows_that_nothing_leads_to(self):
        machine = Machine(NET, code=(((TELL, (-1,)), (("show", "Z"), (-1,))), ()))
        self.assertEqual((machine.heap(0), machine.address(0, "Z"), machine.heap(1)), ([(0, 0)], (0, 0), []))

    def test_names_are_of_the_code_not_of_the_net(self):
        net = ((), ((("show", "G"),),))
        machine = Machine(net, code=(line(("show", "H")),))
        self.assertEqual((machine.address(0, "G"), machine.address(0, "H")), (None, (0, 0)))
        self.assertEqual((machine.holds(0, "G"), machine.holds(0, "H")), (BARE, BARE))

    def test_without_code_the_least_of_the_nets_own(self):
        for seed in range(30):
            draw = Draw(seed)
            net = draw.net()
            machine, other = Machine(net), Machine(net, code=least(net))
            weaving = draw.weaving(net, 80)
            self.assertEqual(machine.weave(weaving), other.weave(weaving))
            self.assertEqual((machine.copied(), machine.heap(0)), (other.copied(), other.heap(0)))
        net = (((0, 1),), ((("add", "G", "a"), ("send", 0, "G")), ()))
        machine, given = Machine(net=net, code=None), Machine(net)
        for run in (machine, given):
            run.weave([0, 0])
            self.assertEqual((run.copied(), run.heap(1)), (0, [(0, 0)]))

    def test_refusals(self):
        for thing in ANYTHING:
            if not is_net(thing):
                self.assertRaises(NoNet, Machine, thing)
                self.assertRaises(NoNet, Machine, thing, code=0)
            if thing is not None and thing != ((), ()):
                with self.assertRaises(NoCode):
                    Machine(NET, code=thing)
        for code in spoiled((line(("let", "G", "H", "give"), ("show", "H")), ()), WRONG):
            with self.assertRaises((NoCode, Unsafe)) as caught:
                Machine(NET, code=code)
        with self.assertRaises(NoCode):
            Machine(NET, code=(line(("take", "G", 0)), ()))
        self.assertRaises(TypeError, Machine, NET, ((), ()))

    def test_code_ahead_of_safety(self):
        bad = line(("let", "G", "H", "give"), ("show", "H"))
        with self.assertRaises(NoCode):
            Machine(NET, code=(bad, ((TELL, (5,)),)))
        with self.assertRaises(Unsafe):
            Machine(NET, code=(bad, ((TELL, (0,)),)))

    def test_unsafe(self):
        bad = line(TELL, ("let", "G", "H", "give"), ("send", 0, "G", "give"), ("show", "H"))
        worse = line(("hang", "G", "a", 0, "H", "give"), ("show", "H"))
        for code, fields in (
            ((bad, ()), (0, 1, (2, 3))), (((), worse), (1, 0, (1,))), ((bad, worse), (0, 1, (2, 3))),
            ((line(TELL), worse), (1, 0, (1,))),
        ):
            with self.assertRaises(Unsafe) as caught:
                Machine(NET, code=code)
            self.assertEqual((caught.exception.actor, caught.exception.row, caught.exception.way), fields)

    def test_unsafe_is_the_least_row(self):
        rows = line(("let", "G", "H", "give"), ("let", "K", "H", "give"), ("show", "H"))
        with self.assertRaises(Unsafe) as caught:
            Machine(NET, code=((), rows))
        self.assertEqual((caught.exception.actor, caught.exception.row, caught.exception.way), (1, 0, (1,)))

    def test_unsafe_as_the_rows_tell(self):
        refused = 0
        for seed in range(100):
            draw = Draw(seed)
            net = draw.net()
            code = draw.ways(flat(net))
            shown = [(actor,) + unsafe(rows) for actor, rows in enumerate(code) if unsafe(rows) is not None]
            if not shown:
                Machine(net, code=code)
                continue
            refused += 1
            with self.assertRaises(Unsafe) as caught:
                Machine(net, code=code)
            self.assertEqual((caught.exception.actor, caught.exception.row, caught.exception.way), shown[0])
        self.assertGreater(refused, 20)


class TestHands(unittest.TestCase):
    def test_new(self):
        machine = done(("add", "G", "a"), ("new", "G"))
        self.assertEqual((machine.address(0, "G"), machine.holds(0, "G")), ((0, 1), BARE))
        self.assertEqual(heaps_of(machine)[0], {(0, 0): TWO, (0, 1): BARE})
        self.assertEqual(machine.copied(), 0)

    def test_deeds_in_place(self):
        machine = done(
            ("add", "G", "a"), ("num", "n", -7), ("put", "G", "a", 0, "n"), ("tie", "G", "z", 2, "a"),
            ("get", "b", "G", "a", 0), ("get", "c", "G", "z", 2), ("sort", "d", "G", "z", 2),
        )
        self.assertEqual(heaps_of(machine)[0], {(0, 0): ((0, 0, ("tie", 1)), (-7, 0, 0))})
        self.assertEqual([machine.holds(0, name) for name in "abcd"], [1, -7, 1, 1])
        self.assertEqual((machine.copied(), machine.steps()), (0, 7))

    def test_deeds_in_place_where_nothing_comes_of_it(self):
        machine = done(
            FAR, ("put", "G", "far", 0, "far"), ("tie", "G", "far", 0, "z"), ("tie", "G", "z", 0, "far"),
            ("get", "b", "G", "far", 0), ("sort", "c", "G", "far", 0),
        )
        self.assertEqual(heaps_of(machine)[0], {(0, 0): BARE})
        self.assertEqual([machine.holds(0, name) for name in "bc"], [0, 3])

    def test_add_to_eight(self):
        machine = done(*(("add", "G", "a"), ("tell", "a")) * 9)
        self.assertEqual(machine.told(0), [1, 2, 3, 4, 5, 6, 7, -1, -1])
        self.assertEqual(machine.boxes((0, 0)), (BOX,) * 8)

    def test_add_to_twenty_four_in_all(self):
        machine = done(
            *(("add", "H", "a"),) * 7, ("hang", "G", "z", 0, "H", "copy"), ("hang", "G", "z", 1, "H", "give"),
            *(("add", "G", "a"), ("tell", "a")) * 6, ("hang", "G", "z", 2, "K", "give"), ("add", "G", "a"), ("tell", "a"),
        )
        self.assertEqual(machine.told(0), [1, 2, 3, 4, 5, 6, -1])
        self.assertEqual(machine.copied(), 8)

    def test_let_copied(self):
        machine = done(("add", "H", "a"), ("let", "G", "H", "copy"), ("put", "H", "a", 0, "a"))
        self.assertEqual(addresses_of(machine, "GH"), [(0, 2), (0, 1)])
        self.assertEqual(heaps_of(machine)[0], {(0, 0): BARE, (0, 1): (BOX, (1, 0, 0)), (0, 2): TWO})
        self.assertEqual(machine.copied(), 2)

    def test_let_given(self):
        machine = done(("add", "H", "a"), ("let", "G", "H", "give"))
        self.assertEqual(addresses_of(machine, "GH"), [(0, 1), None])
        self.assertEqual((machine.holds(0, "G"), machine.holds(0, "H")), (TWO, None))
        self.assertEqual(heaps_of(machine)[0], {(0, 0): BARE, (0, 1): TWO})
        self.assertEqual(machine.copied(), 0)

    def test_an_empty_name_is_filled_again(self):
        machine = done(("let", "G", "H", "give"), ("new", "H"), ("show", "H"))
        self.assertEqual(addresses_of(machine, "GH"), [(0, 1), (0, 2)])
        machine = done(("let", "G", "H", "give"), ("let", "H", "G", "give"))
        self.assertEqual(addresses_of(machine, "GH"), [None, (0, 1)])

    def test_hang_copied(self):
        machine = done(("add", "H", "a"), ("hang", "G", "z", 1, "H", "copy"), ("add", "H", "a"))
        self.assertEqual(addresses_of(machine, "GH"), [(0, 0), (0, 1)])
        self.assertEqual(heaps_of(machine)[0], {(0, 0): ((0, ("at", (0, 2)), 0),), (0, 1): (BOX,) * 3, (0, 2): TWO})
        self.assertEqual(machine.holds(0, "G"), ((0, TWO, 0),))
        self.assertEqual(machine.copied(), 2)

    def test_hang_given(self):
        machine = done(("add", "H", "a"), ("hang", "G", "z", 1, "H", "give"))
        self.assertEqual(addresses_of(machine, "GH"), [(0, 0), None])
        self.assertEqual(heaps_of(machine)[0], {(0, 0): ((0, ("at", (0, 1)), 0),), (0, 1): TWO})
        self.assertEqual((machine.holds(0, "G"), machine.copied()), (((0, TWO, 0),), 0))

    def test_hang_over_what_hung_there(self):
        machine = done(("hang", "G", "z", 1, "H", "give"), ("hang", "G", "z", 1, "K", "give"))
        self.assertEqual(heaps_of(machine)[0], {(0, 0): ((0, ("at", (0, 2)), 0),), (0, 1): BARE, (0, 2): BARE})

    def test_hang_where_there_is_no_box(self):
        machine = done(FAR, ("hang", "G", "far", 1, "H", "copy"))
        self.assertEqual((heaps_of(machine)[0], machine.copied()), ({(0, 0): BARE, (0, 1): BARE}, 0))
        self.assertEqual(addresses_of(machine, "GH"), [(0, 0), (0, 1)])
        machine = done(FAR, ("hang", "G", "far", 1, "H", "give"))
        self.assertEqual((heaps_of(machine)[0], machine.copied()), ({(0, 0): BARE, (0, 1): BARE}, 0))
        self.assertEqual(addresses_of(machine, "GH"), [(0, 0), None])

    def test_hang_four_deep_and_no_deeper(self):
        deep = (
            ("hang", "K", "z", 0, "L", "give"), ("hang", "H", "z", 0, "K", "give"), ("hang", "G", "z", 0, "H", "give"),
        )
        machine = done(*deep, ("show", "G"))
        self.assertEqual(machine.told(0), [((((((BARE, 0, 0),), 0, 0),), 0, 0),)])
        for way, held in (("copy", (0, 0)), ("give", None)):
            machine = done(*deep, ("hang", "M", "z", 0, "G", way))
            self.assertEqual((machine.address(0, "G"), machine.boxes((0, 4)), machine.copied()), (held, BARE, 0))
            self.assertEqual(len(machine.heap(0)), 5)

    def test_hang_to_twenty_four_boxes_and_no_more(self):
        full = (*(("add", "H", "a"),) * 7, ("hang", "G", "z", 0, "H", "copy"), ("hang", "G", "z", 1, "H", "copy"))
        machine = done(*full, ("hang", "G", "z", 2, "H", "give"))
        self.assertEqual((machine.holds(0, "G")[0][2], machine.holds(0, "H"), machine.copied()), (0, None, 16))
        machine = done(*full, ("hang", "G", "z", 1, "H", "give"))
        self.assertEqual((machine.address(0, "H"), machine.boxes((0, 0))[0][1]), (None, ("at", (0, 1))))
        self.assertEqual(machine.copied(), 16)

    def test_hang_of_what_is_alike(self):
        # A like graph hangs there already: a graph comes of it all the same.
        machine = done(("hang", "G", "z", 1, "H", "copy"), ("hang", "G", "z", 1, "H", "copy"))
        self.assertEqual((machine.boxes((0, 0)), machine.copied()), (((0, ("at", (0, 3)), 0),), 2))
        machine = done(("hang", "G", "z", 1, "H", "copy"), ("hang", "G", "z", 1, "H", "give"))
        self.assertEqual((machine.boxes((0, 0)), machine.copied()), (((0, ("at", (0, 1)), 0),), 1))

    def test_copies_of_graphs_within(self):
        machine = done(
            ("add", "L", "a"), ("hang", "H", "z", 2, "K", "give"), ("hang", "G", "z", 2, "L", "give"),
            ("hang", "G", "z", 1, "H", "give"), ("add", "G", "a"), ("new", "H"), ("hang", "G", "a", 0, "H", "give"),
            ("let", "M", "G", "copy"),
        )
        self.assertEqual(addresses_of(machine), [(0, 0), None, None, None, (0, 6)])
        heap = heaps_of(machine)[0]
        self.assertEqual(heap[0, 0], ((0, ("at", (0, 1)), ("at", (0, 3))), (("at", (0, 5)), 0, 0)))
        self.assertEqual(
            {address: boxes for address, boxes in heap.items() if address[1] > 5},
            {
                (0, 6): ((0, ("at", (0, 7)), ("at", (0, 9))), (("at", (0, 10)), 0, 0)),
                (0, 7): ((0, 0, ("at", (0, 8))),),
                (0, 8): BARE,
                (0, 9): TWO,
                (0, 10): BARE,
            },
        )
        self.assertEqual((machine.copied(), machine.holds(0, "M")), (7, machine.holds(0, "G")))

    def test_pick_copied(self):
        machine = done(("add", "H", "a"), ("hang", "G", "z", 1, "H", "give"), ("pick", "K", "G", "z", 1, "copy"), ("show", "G"))
        self.assertEqual(addresses_of(machine, "GHK"), [(0, 0), None, (0, 3)])
        self.assertEqual(
            heaps_of(machine)[0], {(0, 0): ((0, ("at", (0, 1)), 0),), (0, 1): TWO, (0, 2): BARE, (0, 3): TWO})
        self.assertEqual(machine.copied(), 2)

    def test_pick_given(self):
        machine = done(("add", "H", "a"), ("hang", "G", "z", 1, "H", "give"), ("pick", "K", "G", "z", 1, "give"))
        self.assertEqual(addresses_of(machine, "GHK"), [None, None, (0, 1)])
        self.assertEqual(heaps_of(machine)[0], {(0, 0): BARE, (0, 1): TWO, (0, 2): BARE})
        self.assertEqual(machine.copied(), 0)

    def test_pick_into_the_same_name(self):
        hung = (("add", "H", "a"), ("hang", "G", "z", 1, "H", "give"))
        machine = done(*hung, ("pick", "G", "G", "z", 1, "give"))
        self.assertEqual((machine.address(0, "G"), machine.copied()), ((0, 1), 0))
        self.assertEqual(heaps_of(machine)[0], {(0, 0): BARE, (0, 1): TWO})
        machine = done(*hung, ("pick", "G", "G", "z", 1, "copy"))
        self.assertEqual((machine.address(0, "G"), machine.copied()), ((0, 2), 2))
        self.assertEqual(heaps_of(machine)[0], {(0, 0): ((0, ("at", (0, 1)), 0),), (0, 1): TWO, (0, 2): TWO})

    def test_pick_where_no_graph_is(self):
        for place in (FAR, ("num", "z", 5), ("num", "far", 0), ("tie", "G", "far", 1, "far")):
            machine = done(place, ("pick", "K", "G", "far", 1, "copy"))
            self.assertEqual(addresses_of(machine, "GK"), [(0, 0), (0, 2)], place)
            self.assertEqual((machine.boxes((0, 2)), machine.copied(), len(machine.heap(0))), (BARE, 0, 3))
            machine = done(place, ("pick", "K", "G", "far", 1, "give"))
            self.assertEqual(addresses_of(machine, "GK"), [None, (0, 2)], place)
            for way in ("copy", "give"):
                machine = done(place, ("pick", "G", "G", "far", 1, way))
                self.assertEqual((machine.address(0, "G"), machine.copied(), len(machine.heap(0))), ((0, 1), 0, 2))

    def test_send_copied(self):
        machine = done(
            ("add", "H", "a"), ("hang", "G", "z", 0, "H", "give"), ("send", 0, "G", "copy"), ("add", "G", "a"),
            others=(("take", "K", 0),),
        )
        self.assertEqual(addresses_of(machine, "GH"), [(0, 0), None])
        self.assertEqual(heaps_of(machine), [
            {(0, 0): ((("at", (0, 1)), 0, 0), BOX), (0, 1): TWO},
            {(0, 2): ((("at", (0, 3)), 0, 0),), (0, 3): TWO, (1, 0): BARE},
        ])
        self.assertEqual([machine.owner((0, n)) for n in range(4)], [0, 0, 1, 1])
        self.assertEqual((machine.channel(0), machine.channel(1)), ([((TWO, 0, 0),)], []))
        self.assertEqual(machine.copied(), 3)
        machine.step(1)
        self.assertEqual((machine.address(1, "K"), machine.holds(1, "K")), ((0, 2), ((TWO, 0, 0),)))
        self.assertEqual((machine.channel(0), machine.heap(1), machine.copied()), ([], [(0, 2), (0, 3), (1, 0)], 3))

    def test_send_given(self):
        machine = done(
            ("add", "H", "a"), ("hang", "G", "z", 0, "H", "give"), ("send", 0, "G", "give"), ("new", "G"),
            others=(("take", "K", 0), ("pick", "L", "K", "z", 0, "give")),
        )
        self.assertEqual(addresses_of(machine, "GH"), [(0, 2), None])
        self.assertEqual(heaps_of(machine), [
            {(0, 2): BARE}, {(0, 0): ((("at", (0, 1)), 0, 0),), (0, 1): TWO, (1, 0): BARE, (1, 1): BARE},
        ])
        self.assertEqual((machine.channel(0), machine.copied()), ([((TWO, 0, 0),)], 0))
        machine.weave([1, 1])
        self.assertEqual(addresses_of(machine, "KL", 1), [None, (0, 1)])
        self.assertEqual((machine.owner((0, 1)), machine.boxes((0, 0))), (1, BARE))

    def test_sent_there_and_back(self):
        machine = made(
            ("send", 0, "G", "give"), ("take", "G", 1), ("show", "G"), ("new", "H"),
            others=(("take", "K", 0), ("add", "K", "a"), ("send", 1, "K", "give")),
        )
        machine.weave([0, 1, 1, 1])
        self.assertEqual((machine.heap(0), machine.heap(1)), ([(0, 0), (0, 1)], [(1, 0)]))
        machine.weave([0, 0, 0])
        self.assertEqual((machine.address(0, "G"), machine.told(0)), ((0, 0), [TWO]))
        self.assertEqual(machine.address(0, "H"), (0, 2))

    def test_the_first_goes_first(self):
        machine = done(
            ("add", "G", "a"), ("send", 0, "G", "copy"), ("add", "G", "a"), ("send", 0, "G", "give"),
            others=(("take", "K", 0), ("take", "L", 0), ("take", "L", 0)),
        )
        self.assertEqual([len(graph) for graph in machine.channel(0)], [2, 3])
        self.assertEqual(machine.weave([1] * 5), (1, 1))
        self.assertEqual(addresses_of(machine, "KL", 1), [(0, 1), (0, 0)])
        self.assertEqual((machine.at(1), machine.waits(1), machine.is_still()), (2, 0, True))

    def test_the_sent_one_waits_in_the_heap_of_the_taker(self):
        machine = done(("send", 0, "G", "give"))
        self.assertEqual((machine.heap(0), machine.heap(1)), ([], [(0, 0)]))
        self.assertEqual((machine.holds(0, "G"), machine.address(0, "G")), (None, None))

    def test_what_is_put_over_stays(self):
        machine = done(("hang", "G", "z", 0, "H", "give"), ("put", "G", "z", 0, "a"))
        self.assertEqual(heaps_of(machine)[0], {(0, 0): BARE, (0, 1): BARE})
        machine = done(("hang", "G", "z", 0, "H", "give"), ("tie", "G", "z", 0, "z"))
        self.assertEqual(heaps_of(machine)[0], {(0, 0): ((("tie", 0), 0, 0),), (0, 1): BARE})

    def test_show_tells_worths(self):
        machine = done(("hang", "G", "z", 0, "H", "give"), ("show", "G"), ("put", "G", "z", 0, "z"), ("show", "G"))
        self.assertEqual(machine.told(0), [((BARE, 0, 0),), BARE])


class TestAsked(unittest.TestCase):
    def setUp(self):
        self.machine = done(
            ("add", "G", "a"), ("show", "G"), ("let", "H", "G", "give"), ("send", 0, "H", "copy"), ("tell", "a"),
            ("show", "H"), others=(("take", "K", 0),),
        )

    def test_as_of_a_reading(self):
        machine = self.machine
        self.assertEqual((machine.at(0), machine.at(1), machine.waits(0), machine.waits(1)), (-1, 0, None, None))
        self.assertEqual((machine.told(0), machine.told(1)), ([TWO, 1, TWO], []))
        self.assertEqual((machine.channel(0), machine.channel(1)), ([TWO], []))
        self.assertEqual((machine.holds(0, "a"), machine.holds(0, "nowhere"[:6]), machine.holds(1, "a")), (1, 0, 0))
        self.assertIs(machine.is_still(), False)
        self.assertEqual((machine.step(1), machine.step(1), machine.is_still()), (True, False, True))

    def test_empty_names_and_names_that_the_code_does_not_have(self):
        self.assertEqual((self.machine.holds(0, "G"), self.machine.address(0, "G")), (None, None))
        for name in ("K", "X", "Gg"):
            self.assertEqual((self.machine.holds(0, name), self.machine.address(0, name)), (BARE, None))
        self.assertEqual((self.machine.holds(1, "K"), self.machine.address(1, "K")), (BARE, (1, 0)))
        self.assertEqual((self.machine.holds(actor=1, name="G"), self.machine.address(actor=1, name="G")), (BARE, None))

    def test_copied_and_steps(self):
        machine = made(
            ("let", "G", "H", "copy"), ("send", 0, "G", "copy"), ("send", 0, "G", "give"), others=(("take", "K", 0),),
        )
        told = []
        for actor in (0, 1, 0, 0, 0, 1):
            machine.step(actor)
            told.append((machine.copied(), machine.steps()))
        self.assertEqual(told, [(1, 1), (1, 1), (2, 2), (2, 3), (2, 3), (2, 4)])

    def test_no_actor(self):
        machine = self.machine
        for ask in (machine.step, machine.at, machine.waits, machine.told, machine.heap, machine.heap_case, machine.collect):
            for thing in NO_ACTORS:
                self.assertRaises(NoActor, ask, thing)
        for thing in NO_ACTORS:
            self.assertRaises(NoActor, machine.holds, thing, 0)
            self.assertRaises(NoActor, machine.address, thing, 0)
            self.assertRaises(NoActor, machine.paper, thing, 0)
        self.assertRaises(NoActor, machine.heap, actor=2)

    def test_no_name(self):
        for thing in NO_NAMES:
            self.assertRaises(NoName, self.machine.holds, 0, thing)
            self.assertRaises(NoName, self.machine.address, 0, thing)
        for name in ("a", "x", "zzzzzz"):
            self.assertRaises(NoName, self.machine.address, 0, name)

    def test_no_channel(self):
        for thing in NO_ACTORS:
            self.assertRaises(NoChannel, self.machine.channel, thing)
        self.assertEqual(self.machine.channel(number=1), [])

    def test_no_address(self):
        for thing in NO_ADDRESSES + ANYTHING[len(NEVER):]:
            if thing != (0, 1):
                self.assertRaises(NoAddress, self.machine.boxes, thing)
                self.assertRaises(NoAddress, self.machine.owner, thing)
        self.assertEqual(self.machine.owner(address=(0, 0)), 0)
        self.assertEqual(self.machine.boxes(address=(0, 0)), TWO)

    def test_a_free_one_is_in_a_heap_till_it_is_collected(self):
        self.assertEqual((self.machine.owner((0, 1)), self.machine.boxes((0, 1))), (0, BARE))
        self.machine.collect(0)
        self.assertRaises(NoAddress, self.machine.owner, (0, 1))
        self.assertRaises(NoAddress, self.machine.boxes, (0, 1))

    def test_no_weaving(self):
        ahead = all_of(self.machine)
        for thing in NO_WEAVINGS:
            self.assertRaises(NoWeaving, self.machine.weave, thing)
        for last in (2, -1, None, True):
            self.assertRaises(NoWeaving, self.machine.weave, [1, 1, last])
        self.assertRaises(NoWeaving, self.machine.weave, [1] * 401)
        self.assertEqual(all_of(self.machine), ahead)
        self.assertEqual(self.machine.weave((1,) * 400), (1,))
        self.assertEqual(self.machine.weave(weaving=[]), ())

    def test_told_lists_are_the_askers(self):
        for ask in (
            lambda: self.machine.told(0), lambda: self.machine.channel(0), lambda: self.machine.heap(0),
            lambda: self.machine.heap(1), lambda: self.machine.channel(1),
        ):
            kept = ask()
            ask().append(5)
            ask().clear()
            self.assertEqual(ask(), kept)
            self.assertIs(type(ask()), list)
        self.machine.collect(0).clear()
        self.assertEqual(self.machine.heap(0), [(0, 0)])

    def test_asked_again(self):
        self.assertEqual(all_of(self.machine), all_of(self.machine))

    def test_two_side_by_side(self):
        net = (((0, 1),), ((("add", "G", "a"), ("send", 0, "G")), (("take", "G", 0), ("show", "G"))))
        one, other = Machine(net), Machine(net)
        one.weave([0, 0, 1, 1])
        self.assertEqual((other.steps(), other.heap(0), other.heap(1), other.told(1)), (0, [(0, 0)], [(1, 0)], []))
        other.step(0)
        other.back()
        self.assertEqual((one.steps(), one.heap(0), one.told(1)), (4, [], [TWO]))
        self.assertRaises(NoDeed, other.back)

    def test_code_of_the_net_that_is_not_of_its_own(self):
        net = (((0, 1),), ((("new", "G"),), ()))
        code = (((("add", "G", "a"), (1,)), (("send", 0, "G", "copy"), (0,))), ((("take", "X", 0), (0,)),))
        machine = Machine(net, code=code)
        self.assertEqual(machine.weave([0, 0, 0, 0, 1, 1, 1]), (0, 0, 0, 0, 1, 1))
        self.assertEqual((machine.holds(1, "X"), machine.address(1, "X")), ((BOX,) * 3, (0, 2)))
        self.assertEqual(machine.heap(1), [(0, 1), (0, 2), (1, 0)])
        reading = Reading(net)
        self.assertEqual(reading.weave([0, 0]), (0,))

    def test_drawn_code_that_is_not_of_the_nets_own(self):
        for seed in range(60):
            draw = Draw(seed)
            net = draw.net()
            machine = Machine(net, code=least(net, draw.other_code(net)))
            for actor in draw.weaving(net, 60):
                ahead = machine.steps()
                self.assertEqual(machine.step(actor), machine.steps() == ahead + 1)
                self.assertTrue(machine.is_apart(machine.apart()))


class TestBack(unittest.TestCase):
    def setUp(self):
        self.machine = made(
            ("add", "G", "a"), ("hang", "G", "a", 0, "H", "give"), ("new", "H"), ("let", "K", "G", "copy"),
            ("send", 0, "K", "give"), ("show", "G"), ("tell", "a"), ("pick", "H", "G", "a", 0, "give"), ("take", "G", 1),
            others=(("take", "G", 0), ("send", 1, "G", "copy"), ("pick", "G", "G", "a", 0, "give")),
        )

    def test_one_step_at_a_time(self):
        stood = [all_of(self.machine)]
        for actor in (0, 0, 0, 0, 0, 1, 0, 1, 1, 0, 0, 0):
            self.assertIs(self.machine.step(actor), True)
            stood.append(all_of(self.machine))
        self.assertNotIn(stood[-1], stood[:-1])
        for wanted in reversed(stood[:-1]):
            self.assertIsNone(self.machine.back())
            self.assertEqual(all_of(self.machine), wanted)
        self.assertRaises(NoDeed, self.machine.back)
        self.assertEqual(all_of(self.machine), stood[0])

    def test_once_more(self):
        weaving = [0, 0, 0, 0, 0, 1, 0, 1, 1, 0, 0, 0]
        self.machine.weave(weaving)
        end = all_of(self.machine)
        for _ in weaving:
            self.machine.back()
        self.machine.weave(weaving)
        self.assertEqual(all_of(self.machine), end)

    def test_steps_that_are_not_done_are_no_deeds(self):
        self.assertIs(self.machine.step(1), False)
        self.assertRaises(NoDeed, self.machine.back)
        self.machine.step(0)
        self.assertEqual(self.machine.weave([1, 1, 1]), ())
        self.machine.back()
        self.assertEqual(self.machine.at(0), 0)
        self.assertRaises(NoDeed, self.machine.back)

    def test_undoing_is_no_deed(self):
        self.machine.weave([0, 0, 0])
        self.machine.back()
        self.machine.back()
        self.assertEqual((self.machine.at(0), self.machine.steps()), (1, 1))
        self.machine.step(0)
        self.machine.back()
        self.machine.back()
        self.assertRaises(NoDeed, self.machine.back)

    def test_over_collectings(self):
        self.machine.weave([0] * 5)
        stood = all_of(self.machine)
        self.assertEqual(self.machine.collect(0), [(0, 2)])
        collected = all_of(self.machine)
        self.assertEqual(self.machine.collect(0), [])
        self.machine.back()
        self.assertEqual(all_of(self.machine), collected)
        self.machine.back()
        self.assertEqual(all_of(self.machine), stood)
        self.machine.back()
        self.assertEqual(self.machine.steps(), 4)

    def test_addresses_come_anew(self):
        self.machine.weave([0, 0, 0])
        self.assertEqual(self.machine.address(0, "H"), (0, 3))
        self.machine.back()
        self.assertRaises(NoAddress, self.machine.owner, (0, 3))
        self.machine.step(0)
        self.assertEqual(self.machine.address(0, "H"), (0, 3))

    def test_refusals_are_no_deeds(self):
        self.assertRaises(NoActor, self.machine.step, 5)
        self.assertRaises(NoWeaving, self.machine.weave, [0, 5])
        self.assertRaises(NoActor, self.machine.collect, 5)
        self.assertRaises(NoDeed, self.machine.back)

    def test_many_steps(self):
        machine = Machine(NET, code=((((("let", "G", "H", "copy")), (1,)), (TELL, (0,))), ()))
        for _ in range(10):
            machine.weave([0] * 400)
        self.assertEqual((machine.steps(), machine.copied(), len(machine.heap(0))), (4000, 2000, 2002))
        for _ in range(4000):
            machine.back()
        self.assertEqual((machine.steps(), machine.copied(), machine.heap(0)), (0, 0, [(0, 0), (0, 1)]))
        self.assertRaises(NoDeed, machine.back)


class TestTrial(unittest.TestCase):
    def setUp(self):
        self.machine = made(
            ("add", "G", "a"), ("send", 0, "G", "give"), ("tell", "a"),
            others=(("take", "G", 0), ("pick", "K", "G", "a", 0, "give")),
        )

    def test_tells_what_weave_would(self):
        ahead = all_of(self.machine)
        for weaving in ([], [0, 1, 0, 1, 0, 1, 0], (1, 0, 0, 1, 1, 1)):
            tried = self.machine.trial(weaving)
            self.assertEqual(all_of(self.machine), ahead)
            self.assertIs(type(tried), tuple)
            other = Machine(NET, code=self.machine_code())
            self.assertEqual(other.weave(weaving), tried)
        self.assertRaises(NoDeed, self.machine.back)

    def machine_code(self):
        return (
            line(("add", "G", "a"), ("send", 0, "G", "give"), ("tell", "a")),
            line(("take", "G", 0), ("pick", "K", "G", "a", 0, "give")),
        )

    def test_deeds_ahead_of_it_stand(self):
        self.machine.weave([0])
        self.machine.collect(1)
        ahead = all_of(self.machine)
        self.assertEqual(self.machine.trial(weaving=[0, 0, 1, 1]), (0, 0, 1, 1))
        self.assertEqual(all_of(self.machine), ahead)
        self.machine.back()
        self.machine.back()
        self.assertRaises(NoDeed, self.machine.back)

    def test_no_actor(self):
        ahead = all_of(self.machine)
        for weaving in ([2], [0, 0, -1], (0, 1, True), [0, None, 9], [0, "1"], (0, [0]), [GREAT], [0] * 399 + [2], ["?", 2]):
            self.assertRaises(NoActor, self.machine.trial, weaving)
            self.assertEqual(all_of(self.machine), ahead)
            self.assertRaises(NoDeed, self.machine.back)

    def test_no_weaving(self):
        for thing in (None, 0, True, "", "01", {}, {0: 1}, [0] * 401, (0,) * 401, [9] * 401, [None] * 500, GREAT):
            self.assertRaises(NoWeaving, self.machine.trial, thing)
        self.assertEqual(self.machine.trial([0] * 400), (0, 0, 0))
        self.assertEqual(self.machine.steps(), 0)

    def test_the_weaving_is_not_changed(self):
        weaving = [0, 1, 0, 0]
        self.machine.trial(weaving)
        self.assertEqual(weaving, [0, 1, 0, 0])


class TestLeastHands(unittest.TestCase):
    def test_least_code_gives(self):
        net = (((0, 1),), (
            (("add", "G", "a"), ("let", "H", "G"), ("hang", "K", "a", 0, "H"), ("hang", "K", "z", 0, "H"), ("send", 0, "K")),
            (("take", "G", 0), ("pick", "G", "G", "a", 0), ("show", "G")),
        ))
        self.assertEqual([must_copy(rows) for rows in least(net)], [(2,), ()])
        machine = Machine(net)
        machine.weave([0] * 5 + [1] * 3)
        self.assertEqual((machine.copied(), machine.told(1)), (0, [TWO]))
        self.assertEqual((machine.heap(0), machine.heap(1)), ([(0, 1)], [(0, 0), (0, 2), (1, 0)]))


if __name__ == "__main__":
    unittest.main()
