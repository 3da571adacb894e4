"""Points 13 to 15: flat code."""

import unittest

from giveway.code import flat, is_code, is_own
from giveway.errors import NoCode, NoNet
from giveway.machine import Machine
from giveway.nets import is_net
from giveway.reading import Reading
from tests.drawn import Draw
from tests.things import ANYTHING, GREAT, NEVER, spoiled

CHANNELS = ((0, 1), (1, 0), (1, 2))
TELL = ("tell", "a")
NET = (CHANNELS, ((TELL,), (), ()))

# A row of each deed, of actor 0 of CHANNELS.
ROWS = (
    (("num", "a", 5), (1,)),
    (("sum", "a", "b", "+", "c"), (2,)),
    (("new", "G"), (3,)),
    (("let", "G", "H", "copy"), (4,)),
    (("add", "G", "a"), (5,)),
    (("put", "G", "b", 0, "c"), (6,)),
    (("tie", "G", "b", 1, "c"), (7,)),
    (("hang", "G", "b", 2, "H", "give"), (8,)),
    (("get", "a", "G", "b", 0), (9,)),
    (("sort", "a", "G", "b", 1), (10,)),
    (("pick", "G", "H", "b", 2, "copy"), (11,)),
    (("send", 0, "G", "give"), (12,)),
    (("take", "G", 1), (13,)),
    (("tell", "a"), (14,)),
    (("show", "G"), (15,)),
    (("test", "a"), (0, -1)),
)
HANDING = ("let", "hang", "pick", "send")

# (-1,) is right in the place of nexts.
WRONG = tuple(thing for thing in NEVER if thing != (-1,))


def alone(*statements):
    return ((), (tuple(statements),))


def is_row(row, many=1):
    """Whether code stands that has this row, with others that are right."""
    return is_code(NET, ((row,) + ((TELL, (-1,)),) * (many - 1), (), ()))


def flat_alone(*statements):
    return flat(alone(*statements))[0]


class TestIsCode(unittest.TestCase):
    def test_each_deed(self):
        self.assertIs(is_code(NET, (ROWS, (), ())), True)
        for deed, nexts in ROWS:
            self.assertIs(is_row((deed, (-1,) * len(nexts))), True, deed)
            self.assertIs(is_row((deed, (0,) * len(nexts))), True, deed)

    def test_last_parts(self):
        for deed, nexts in ROWS:
            bare = deed[:-1] if deed[0] in HANDING else deed
            for last in ("copy", "give"):
                self.assertIs(is_row((bare + (last,), (-1,) * len(nexts))), deed[0] in HANDING, deed)
            for last in NEVER + ("Copy", "gives", "G", "a", 0, ("copy",)):
                self.assertIs(is_row((bare + (last,), (-1,) * len(nexts))), False, (deed, last))
            self.assertIs(is_row((bare, (-1,) * len(nexts))), deed[0] not in HANDING, deed)
            self.assertIs(is_row((bare + ("copy", "copy"), (-1,) * len(nexts))), False, deed)

    def test_names_that_are_words(self):
        for name in ("copy", "give", "test", "if"):
            self.assertIs(is_row((("tell", name), (-1,))), True)
            self.assertIs(is_row((("test", name), (-1, -1))), True)

    def test_no_branches(self):
        for deed in (("if", "a", (), ()), ("while", "a", ()), ("if", "a"), ("while", "a")):
            self.assertIs(is_row((deed, (-1,))), False)
            self.assertIs(is_row((deed, (-1, -1))), False)

    def test_tests(self):
        for deed in (("test",), ("test", "A"), ("test", "a", "b"), ("test", 0), ("test", ""), ("test", None), "test"):
            self.assertIs(is_row((deed, (-1, -1))), False)

    def test_unlike_names(self):
        for way in ("copy", "give"):
            self.assertIs(is_row((("let", "G", "G", way), (-1,))), False)
            self.assertIs(is_row((("hang", "G", "a", 0, "G", way), (-1,))), False)
            self.assertIs(is_row((("pick", "G", "G", "a", 0, way), (-1,))), True)

    def test_bounds_of_parts(self):
        for n, fits in ((-9999, True), (9999, True), (-10000, False), (10000, False), (True, False)):
            self.assertIs(is_row((("num", "a", n), (-1,))), fits)
        for k, fits in ((0, True), (2, True), (3, False), (-1, False), (True, False)):
            self.assertIs(is_row((("put", "G", "a", k, "b"), (-1,))), fits)
            self.assertIs(is_row((("hang", "G", "a", k, "H", "copy"), (-1,))), fits)

    def test_nexts(self):
        for after in range(-1, 5):
            self.assertIs(is_row((TELL, (after,)), 5), True)
            self.assertIs(is_row((("test", "a"), (after, after)), 5), True)
        for after in NEVER + (5, -2, "0", (0,)):
            self.assertIs(is_row((TELL, (after,)), 5), False)
            self.assertIs(is_row((("test", "a"), (after, 0)), 5), False)
            self.assertIs(is_row((("test", "a"), (0, after)), 5), False)
        for nexts in WRONG + (0, -1, [0], (), (0, 0), (0, 0, 0)):
            self.assertIs(is_row((TELL, nexts), 5), False)
        for nexts in NEVER + (0, -1, [0, 0], (), (0,), (0, 0, 0)):
            self.assertIs(is_row((("test", "a"), nexts), 5), False)

    def test_forty_rows(self):
        for many, fits in ((0, True), (1, True), (39, True), (40, True), (41, False), (200, False)):
            self.assertIs(is_code(NET, (((TELL, (-1,)),) * many, (), ())), fits)
        self.assertIs(is_row((TELL, (39,)), 40), True)
        self.assertIs(is_row((TELL, (40,)), 40), False)

    def test_channels_of_the_actor(self):
        sends = {0: 0, 1: 1, 2: 1}
        takes = {0: 1, 1: 0, 2: 2}
        for actor in range(3):
            for m in NEVER + tuple(range(-1, 7)):
                code = [(), (), ()]
                code[actor] = ((("send", m, "G", "copy"), (-1,)),)
                right = isinstance(m, int) and not isinstance(m, bool)
                self.assertIs(is_code(NET, tuple(code)), right and sends.get(m) == actor, (actor, m))
                code[actor] = ((("take", "G", m), (-1,)),)
                self.assertIs(is_code(NET, tuple(code)), right and takes.get(m) == actor, (actor, m))

    def test_deeds_need_not_stand_in_the_net(self):
        self.assertIs(is_code(NET, ((), (), ())), True)
        self.assertIs(is_code(NET, ((), ((("new", "X"), (-1,)),), ((TELL, (0,)),))), True)

    def test_flat_code_for_each_actor(self):
        for code in ((), ((),), ((), ()), ((), (), (), ()), [(), (), ()], ((), (), []), ((), None, ())):
            self.assertIs(is_code(NET, code), False)

    def test_other_kinds(self):
        for code in spoiled((ROWS, (), ()), WRONG):
            self.assertIs(is_code(NET, code), False, code)

    def test_anything_is_answered(self):
        for thing in ANYTHING:
            self.assertIs(is_code(NET, thing), False)
            self.assertIs(is_code(alone(), thing), thing == ((),))
            self.assertIs(is_code(alone(), (thing,)), thing == ())
            self.assertIs(is_code(alone(), ((thing,),)), False)
            self.assertIs(is_code(alone(), (((thing, (-1,)),),)), False)
        self.assertIs(is_code(net=NET, thing=((), (), ())), True)

    def test_no_net(self):
        for thing in ANYTHING:
            if not is_net(thing):
                self.assertRaises(NoNet, is_code, thing, ())
                self.assertRaises(NoNet, is_own, thing, None)
                self.assertRaises(NoNet, flat, thing)


class TestFlat(unittest.TestCase):
    def test_rows_in_order(self):
        self.assertEqual(flat_alone(), ())
        self.assertEqual(flat_alone(TELL), ((TELL, (-1,)),))
        self.assertEqual(flat_alone(TELL, TELL, TELL), ((TELL, (1,)), (TELL, (2,)), (TELL, (-1,))))

    def test_last_parts_copy(self):
        net = (((0, 1),), ((("let", "G", "H"), ("hang", "G", "a", 0, "H"), ("pick", "G", "G", "a", 1), ("send", 0, "G")), ()))
        self.assertEqual(flat(net), (
            (
                (("let", "G", "H", "copy"), (1,)),
                (("hang", "G", "a", 0, "H", "copy"), (2,)),
                (("pick", "G", "G", "a", 1, "copy"), (3,)),
                (("send", 0, "G", "copy"), (-1,)),
            ),
            (),
        ))

    def test_if(self):
        test = ("test", "a")
        self.assertEqual(
            flat_alone(("if", "a", (TELL,), (TELL, TELL)), TELL),
            ((test, (1, 2)), (TELL, (4,)), (TELL, (3,)), (TELL, (4,)), (TELL, (-1,))),
        )
        self.assertEqual(flat_alone(("if", "a", (TELL,), ())), ((test, (1, -1)), (TELL, (-1,))))
        self.assertEqual(flat_alone(("if", "a", (), (TELL,)), TELL), ((test, (2, 1)), (TELL, (2,)), (TELL, (-1,))))
        self.assertEqual(flat_alone(("if", "a", (), ()), TELL), ((test, (1, 1)), (TELL, (-1,))))
        self.assertEqual(flat_alone(("if", "a", (), ())), ((test, (-1, -1)),))

    def test_while(self):
        test = ("test", "a")
        self.assertEqual(
            flat_alone(("while", "a", (TELL, TELL)), TELL),
            ((test, (1, 3)), (TELL, (2,)), (TELL, (0,)), (TELL, (-1,))),
        )
        self.assertEqual(flat_alone(("while", "a", ())), ((test, (0, -1)),))
        self.assertEqual(flat_alone(TELL, ("while", "a", ()), TELL), ((TELL, (1,)), (test, (1, 2)), (TELL, (-1,))))
        self.assertEqual(flat_alone(TELL, ("while", "a", (TELL,))), ((TELL, (1,)), (test, (2, -1)), (TELL, (1,))))

    def test_ends_of_blocks_within_blocks(self):
        a, b, c = ("test", "a"), ("test", "b"), ("test", "c")
        self.assertEqual(
            flat_alone(("while", "a", (("if", "b", (("while", "c", (TELL,)),), ()),)), TELL),
            ((a, (1, 4)), (b, (2, 0)), (c, (3, 0)), (TELL, (2,)), (TELL, (-1,))),
        )
        self.assertEqual(
            flat_alone(("while", "a", (TELL, ("if", "b", (), (("if", "c", (TELL,), ()),))))),
            ((a, (1, -1)), (TELL, (2,)), (b, (0, 3)), (c, (4, 0)), (TELL, (0,))),
        )
        self.assertEqual(
            flat_alone(("while", "a", (("while", "b", ()),))),
            ((a, (1, -1)), (b, (1, 0))),
        )
        self.assertEqual(
            flat_alone(("if", "a", (("if", "b", (TELL,), (TELL,)),), (("if", "c", (), ()),)), TELL),
            ((a, (1, 4)), (b, (2, 3)), (TELL, (5,)), (TELL, (5,)), (c, (5, 5)), (TELL, (-1,))),
        )

    def test_flat_is_own_code(self):
        for seed in range(100):
            net = Draw(seed).net()
            self.assertIs(is_code(net, flat(net)), True)
            self.assertIs(is_own(net, flat(net)), True)
        self.assertEqual(flat(net=alone()), ((),))


class TestIsOwn(unittest.TestCase):
    net = (((0, 1),), ((("let", "G", "H"), ("if", "a", (TELL,), (("show", "G"),)), ("send", 0, "G")), (("take", "G", 0),)))

    def test_last_parts_are_free(self):
        for seed in range(60):
            draw = Draw(seed)
            net = draw.net()
            self.assertIs(is_own(net, draw.ways(flat(net))), True)

    def test_other_rows(self):
        rows, others = flat(self.net)
        self.assertIs(is_own(self.net, (rows, others)), True)
        self.assertIs(is_own(self.net, ((), others)), False)
        self.assertIs(is_own(self.net, (rows, ())), False)
        self.assertIs(is_own(self.net, (rows + ((TELL, (-1,)),), others)), False)
        for k, (deed, nexts) in enumerate(rows):
            for place, after in enumerate(nexts):
                for other in range(-1, len(rows)):
                    changed = nexts[:place] + (other,) + nexts[place + 1:]
                    code = (rows[:k] + ((deed, changed),) + rows[k + 1:], others)
                    self.assertIs(is_own(self.net, code), other == after, (k, other))
            for other in (("new", "G"), ("tell", "b"), ("let", "G", "K", "copy")):
                code = (rows[:k] + ((other, (-1,)),) + rows[k + 1:], others)
                self.assertIs(is_own(self.net, code), False)

    def test_rows_exchanged(self):
        net = alone(("new", "G"), ("new", "H"))
        first, second = ("new", "G"), ("new", "H")
        self.assertIs(is_own(net, (((second, (1,)), (first, (-1,))),)), False)
        self.assertIs(is_own(net, (((first, (1,)), (second, (-1,))),)), True)

    def test_no_code(self):
        for thing in ANYTHING:
            if thing != ((), ()):
                self.assertRaises(NoCode, is_own, self.net, thing)
        for thing in spoiled(flat(self.net), WRONG):
            self.assertRaises(NoCode, is_own, self.net, thing)
        self.assertRaises(NoCode, is_own, net=self.net, code=list(flat(self.net)))
        self.assertRaises(NoCode, is_own, self.net, ((), ((("take", "G", GREAT), (-1,)),)))


class TestDone(unittest.TestCase):
    """Point 15: the rows do what the statements do."""

    def test_a_row_is_a_step(self):
        for seed in range(60):
            draw = Draw(seed)
            net = draw.net()
            machine, reading = Machine(net, code=flat(net)), Reading(net)
            for actor in draw.weaving(net, 60):
                self.assertEqual(machine.step(actor), reading.step(actor))
                self.assertEqual(machine.at(actor), reading.at(actor))
                self.assertEqual(machine.told(actor), reading.told(actor))

    def test_begins_with_the_row_0(self):
        code = ((("num", "a", 2), (2,)), (("num", "a", 9), (-1,)), (TELL, (-1,)))
        machine = Machine(alone(), code=(code,))
        self.assertEqual((machine.at(0), machine.step(0), machine.at(0)), (0, True, 2))
        self.assertEqual((machine.step(0), machine.at(0), machine.step(0)), (True, -1, False))
        self.assertEqual(machine.told(0), [2])

    def test_without_rows_it_is_at_its_end(self):
        machine = Machine(alone(TELL), code=((),))
        self.assertEqual((machine.at(0), machine.step(0), machine.is_still()), (-1, False, True))

    def test_tests(self):
        for n, told in ((0, [0]), (1, []), (-1, []), (9999, [])):
            code = ((("num", "a", n), (1,)), (("test", "a"), (-1, 2)), (TELL, (-1,)))
            machine = Machine(alone(), code=(code,))
            machine.weave([0] * 5)
            self.assertEqual(machine.told(0), told)

    def test_rows_may_lead_back_to_themselves(self):
        machine = Machine(alone(), code=(((TELL, (0,)),),))
        self.assertEqual(machine.weave([0] * 400), (0,) * 400)
        self.assertEqual(machine.told(0), [0] * 400)


if __name__ == "__main__":
    unittest.main()
