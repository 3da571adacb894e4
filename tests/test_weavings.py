"""Points 24 and 25: full and whole weavings, and the exchanges between them."""

import copy
import itertools
import unittest

from giveway.errors import NoNet, NotFull, NoWeaving
from giveway.machine import Machine
from giveway.reading import Reading, outcome
from giveway.weavings import exchanges, is_full, is_whole, leads
from tests.drawn import Draw
from tests.oracle import Oracle
from tests.test_reading import NO_WEAVINGS
from tests.things import ANYTHING, GREAT, NEVER

TELL = ("tell", "a")
FREE = ((), ((TELL,) * 3, (TELL,) * 3, (TELL,) * 2))
SENT = (((0, 1),), ((TELL, ("send", 0, "G"), TELL), (("take", "G", 0), TELL)))
LONG = ((), ((("num", "a", 1), ("while", "a", ())), (TELL,) * 12))

# None of these is a weaving of two actors.
WRONG = NO_WEAVINGS + ([0] * 41, (1,) * 41, [0, 1] * 21, [0] * 40 + [None])


def full_by_oracle(net, weaving):
    oracle = Oracle(net)
    return all([oracle.step(actor) for actor in weaving])


def turned(weaving, p):
    return weaving[:p] + (weaving[p + 1], weaving[p]) + weaving[p + 2:]


def is_exchange(net, weaving, p):
    """Whether there is an exchange at p, one of all pairs of neighbours, of a full weaving."""
    return weaving[p] != weaving[p + 1] and full_by_oracle(net, turned(weaving, p))


def near(net, weaving):
    """The numbers p of all exchanges of a full weaving."""
    return [p for p in range(len(weaving) - 1) if is_exchange(net, weaving, p)]


def other_way_about(one, other):
    """How many twos of steps of unlike actors stand the other way about."""
    def places(weaving):
        return {(actor, weaving[:at].count(actor)): at for at, actor in enumerate(weaving)}
    ahead, behind = places(tuple(one)), places(tuple(other))
    return sum(
        (ahead[x] < ahead[y]) != (behind[x] < behind[y])
        for x, y in itertools.combinations(ahead, 2) if x[0] != y[0]
    )


def drawn_full(draw, net, most=40):
    """A full weaving of the net, drawn."""
    return Reading(net).weave(draw.weaving(net, 3 * most))[:most]


def shuffled(draw, net, weaving, many):
    """A full weaving to which drawn exchanges lead."""
    for _ in range(many):
        there = near(net, weaving)
        if there:
            weaving = turned(weaving, draw.one(there))
    return weaving


class TestFull(unittest.TestCase):
    def test_full(self):
        for weaving in ((), (0,), (1,), (0, 1, 2), (2, 2, 1, 1, 1, 0, 0, 0), (0, 0, 0)):
            self.assertIs(is_full(FREE, weaving), True)
            self.assertIs(is_full(FREE, list(weaving)), True)

    def test_a_turn_of_one_that_has_ended(self):
        for weaving in ((0, 0, 0, 0), (2, 2, 2), (0, 2, 0, 2, 1, 2, 0)):
            self.assertIs(is_full(FREE, weaving), False)
            self.assertIs(is_full(FREE, list(weaving)), False)
        self.assertIs(is_full(((), ((), (TELL,))), [0]), False)

    def test_a_turn_of_one_that_waits(self):
        self.assertIs(is_full(SENT, [0, 0, 1, 1]), True)
        for weaving in ([1], [0, 1], [0, 1, 0, 1], [1, 0, 0, 1, 1]):
            self.assertIs(is_full(SENT, weaving), False)

    def test_as_many_as_forty(self):
        self.assertIs(is_full(LONG, [0] * 40), True)
        self.assertIs(is_full(LONG, (0,) * 28 + (1,) * 12), True)
        self.assertIs(is_full(LONG, (0,) * 27 + (1,) * 13), False)
        for judge in (is_full, is_whole):
            self.assertRaises(NoWeaving, judge, LONG, [0] * 41)
            self.assertRaises(NoWeaving, judge, LONG, (1,) * 41)

    def test_by_names(self):
        self.assertIs(is_full(weaving=[0], net=SENT), True)
        self.assertIs(is_whole(weaving=[0], net=SENT), False)

    def test_is_the_second_readings(self):
        seen = set()
        for seed in range(150):
            draw = Draw(seed)
            net = draw.net(longest=6)
            weaving = draw.weaving(net, draw.many(0, 12))
            seen.add(is_full(net, weaving))
            self.assertIs(is_full(net, weaving), full_by_oracle(net, weaving))
            done = drawn_full(draw, net)
            self.assertIs(is_full(net, done), True)
        self.assertEqual(seen, {True, False})


class TestWhole(unittest.TestCase):
    def test_whole_be_it_full_or_not(self):
        self.assertIs(is_whole(SENT, [0, 0, 0, 1, 1]), True)
        self.assertIs(is_whole(SENT, [0, 0, 1, 0, 1]), True)
        self.assertIs(is_whole(SENT, (1, 0, 1, 0, 1, 1, 0, 0, 0)), True)
        self.assertIs(is_whole(SENT, [0, 0, 0, 1, 1, 1]), True)

    def test_one_fewer(self):
        whole = [0, 0, 1, 0, 1]
        for k in range(5):
            self.assertIs(is_whole(SENT, whole[:k] + whole[k + 1:]), False)
        for k in range(5):
            self.assertIs(is_whole(SENT, whole[:k]), False)

    def test_two_exchanged(self):
        self.assertIs(is_whole(SENT, [0, 1, 0, 0, 1]), False)
        self.assertIs(is_whole(SENT, [0, 0, 1, 1, 0]), True)

    def test_still_at_a_take(self):
        net = (((0, 1), (1, 0)), ((("take", "G", 1),), (TELL, ("take", "G", 0))))
        self.assertIs(is_whole(net, []), False)
        self.assertIs(is_whole(net, [1]), True)
        self.assertIs(is_whole(net, [0, 1, 1]), True)

    def test_nothing_to_do(self):
        self.assertIs(is_whole(((), ((),)), ()), True)
        self.assertIs(is_whole(((), ((),)), [0] * 40), True)

    def test_one_that_never_ends(self):
        self.assertIs(is_whole(LONG, [0] * 28 + [1] * 12), False)

    def test_drawn(self):
        whole = 0
        for seed in range(200):
            draw = Draw(seed)
            net = draw.net(longest=5, deepest=2)
            end, weaving = outcome(net, most=39)
            self.assertIs(is_whole(net, weaving), end != "more")
            if end == "more" or not weaving:
                continue
            whole += 1
            self.assertIs(is_whole(net, weaving + (draw.many(0, len(net[1]) - 1),)), True)
            self.assertIs(is_whole(net, weaving[:-1]), False)
        self.assertGreater(whole, 50)


class TestExchanges(unittest.TestCase):
    def assert_leads(self, net, one, other):
        """A row is told, as short as can be, each of its numbers an exchange of what is full then."""
        row = exchanges(net, one, other)
        self.assertIs(type(row), list)
        self.assertEqual(len(row), other_way_about(one, other))
        there = tuple(one)
        for p in row:
            self.assertIs(type(p), int)
            self.assertIn(p, range(len(there) - 1))
            self.assertTrue(is_exchange(net, there, p))
            there = turned(there, p)
        self.assertEqual(there, tuple(other))
        self.assertIs(leads(net, one, other, row), True)
        return row

    def test_alike(self):
        for weaving in ((), (0,), (0, 1, 2, 0)):
            self.assertEqual(exchanges(FREE, weaving, weaving), [])
            self.assertEqual(exchanges(FREE, list(weaving), weaving), [])
            self.assertEqual(exchanges(FREE, weaving, list(weaving)), [])

    def test_near(self):
        self.assertEqual(exchanges(FREE, [0, 1, 2], [0, 2, 1]), [1])
        self.assertEqual(exchanges(FREE, (0, 1), [1, 0]), [0])
        self.assertEqual(exchanges(net=SENT, one=[0, 0, 0, 1], other=[0, 0, 1, 0]), [2])

    def test_far(self):
        self.assertEqual(len(self.assert_leads(FREE, [0, 0, 0, 1, 1, 1], [1, 1, 1, 0, 0, 0])), 9)
        self.assertEqual(len(self.assert_leads(FREE, (0, 0, 1, 1, 2, 2), (2, 2, 1, 1, 0, 0))), 12)
        self.assertEqual(len(self.assert_leads(LONG, [0] * 28 + [1] * 12, [1] * 12 + [0] * 28)), 28 * 12)

    def test_steps_of_one_actor_stay_in_order(self):
        self.assertEqual(len(self.assert_leads(FREE, [0, 1, 0], [1, 0, 0])), 1)
        self.assertEqual(len(self.assert_leads(FREE, [0, 1, 0, 1], [1, 0, 1, 0])), 2)

    def test_unlike_numbers_of_steps(self):
        for one, other in (((), (0,)), ((0,), (1,)), ((0, 1), (0, 1, 2)), ((0, 0, 1), (0, 1, 1)), ((0, 1, 2), (1, 0))):
            self.assertIsNone(exchanges(FREE, one, other))
            self.assertIsNone(exchanges(FREE, other, list(one)))
            for thing in ([], [0], None, [0, 1]):
                self.assertIs(leads(FREE, one, other, thing), False)

    def test_all_of_a_small_net(self):
        counts = (0, 0, 0, 1, 1)
        full = [one for one in sorted(set(itertools.permutations(counts))) if full_by_oracle(SENT, one)]
        self.assertEqual(full, [(0, 0, 0, 1, 1), (0, 0, 1, 0, 1), (0, 0, 1, 1, 0)])
        for one, other in itertools.product(full, repeat=2):
            self.assert_leads(SENT, one, other)

    def test_round_about_what_a_take_needs(self):
        net = (((0, 1), (1, 0)), (
            (("send", 0, "G"), ("take", "H", 1), TELL, ("send", 0, "H")), (TELL, ("take", "G", 0), ("send", 1, "G"), TELL)))
        full = [one for one in set(itertools.permutations((0,) * 4 + (1,) * 4)) if full_by_oracle(net, one)]
        self.assertGreater(len(full), 5)
        for one, other in itertools.product(full, repeat=2):
            self.assert_leads(net, one, other)

    def test_what_was_sent_first_is_taken_first(self):
        net = (((0, 1),), ((("send", 0, "G"),) * 4, (("take", "G", 0),) * 3))
        full = [one for one in set(itertools.permutations((0,) * 4 + (1,) * 3)) if full_by_oracle(net, one)]
        self.assertEqual(len(full), 14)
        for one, other in itertools.product(full, repeat=2):
            self.assert_leads(net, one, other)
            for p in range(6):
                if one[p] != one[p + 1]:
                    self.assertIs(leads(net, one, one, [p, p]), is_exchange(net, one, p))

    def test_several_channels_from_one_actor(self):
        sends = (("send", 0, "G"), ("send", 1, "G"), ("send", 0, "G"))
        net = (((0, 1), (0, 1)), (sends, (("take", "G", 1), ("take", "G", 0), ("take", "G", 0))))
        full = [one for one in set(itertools.permutations((0,) * 3 + (1,) * 3)) if full_by_oracle(net, one)]
        self.assertEqual(len(full), 3)
        for one, other in itertools.product(full, repeat=2):
            self.assert_leads(net, one, other)

    def test_drawn(self):
        longest = 0
        for seed in range(120):
            draw = Draw(seed)
            net = draw.net(longest=8)
            one = drawn_full(draw, net, draw.many(2, 40))
            other = shuffled(draw, net, one, 40)
            longest = max(longest, len(self.assert_leads(net, one, list(other))))
            self.assert_leads(net, list(other), one)
        self.assertGreater(longest, 20)

    def test_whole_weavings_are_led_to_one_another(self):
        whole = 0
        for seed in range(200):
            draw = Draw(seed)
            net = draw.net(longest=6, deepest=2)
            end, one = outcome(net, most=40)
            if end == "more" or len(net[1]) == 1:
                continue
            whole += 1
            other = drawn_full(draw, net, 100)
            reading = Reading(net)
            reading.weave(other)
            while not reading.is_still():
                other += reading.weave(draw.weaving(net, 20))
            self.assertEqual(sorted(one), sorted(other))
            self.assert_leads(net, one, other)
            self.assert_leads(net, other, one)
        self.assertGreater(whole, 40)

    def test_not_full(self):
        full, other = (0, 0, 1), (0, 1, 0)
        for one, two in ((full, other), (other, full), (other, other), ((1,), (1,)), ((), (1,)), ((0,) * 4, ())):
            self.assertRaises(NotFull, exchanges, SENT, one, two)
            for thing in ([], [0], None, "", GREAT):
                self.assertRaises(NotFull, leads, SENT, list(one), two, thing)

    def test_forty_and_one_beyond(self):
        forty, more = (0,) * 40, (0,) * 41
        self.assertEqual(exchanges(LONG, forty, list(forty)), [])
        self.assertIs(leads(LONG, forty, list(forty), []), True)
        for one, other in ((more, forty), (forty, more), (more, more), ([], list(more))):
            self.assertRaises(NoWeaving, exchanges, LONG, one, other)
            self.assertRaises(NoWeaving, leads, LONG, one, other, [])


class TestLeads(unittest.TestCase):
    one, other = (0, 1, 2, 0), (2, 1, 0, 0)

    def says(self, thing):
        return leads(FREE, self.one, self.other, thing)

    def test_told_row_and_those_beside_it(self):
        row = exchanges(FREE, self.one, self.other)
        self.assertEqual(len(row), 3)
        self.assertIs(self.says(row), True)
        for k in range(3):
            self.assertIs(self.says(row[:k]), False)
            self.assertIs(self.says(row[:k] + row[k + 1:]), False)
            for p in (-1, 0, 1, 2, 3, 4):
                wrong = row[:k] + [p] + row[k + 1:]
                self.assertIs(self.says(wrong), wrong == row)
        for p in range(-2, 5):
            self.assertIs(self.says(row + [p]), False)

    def test_another_row(self):
        rows = [list(row) for row in itertools.product(range(3), repeat=3) if self.says(list(row))]
        self.assertEqual(rows, [[0, 1, 0], [1, 0, 1]])

    def test_there_and_back(self):
        for p in (0, 1, 2):
            self.assertIs(self.says([p, p, 0, 1, 0]), True)
        for p in (0, 1):
            self.assertIs(self.says([0, 1, 0, p, p]), True)
        # The actors at 2 and 3 are alike behind it.
        self.assertIs(self.says([0, 1, 0, 2, 2]), False)
        self.assertIs(self.says([0, 1, 0] + [0] * 9_990), True)
        self.assertIs(self.says([0, 1, 0] + [0] * 9_991), False)

    def test_like_actors(self):
        self.assertIs(leads(FREE, [0, 0], [0, 0], [0]), False)
        self.assertIs(leads(FREE, [0, 0], [0, 0], []), True)

    def test_what_comes_of_it_is_full(self):
        one, other = (0, 0, 1, 0), (0, 0, 0, 1)
        self.assertIs(leads(SENT, one, other, [2]), True)
        self.assertIs(leads(SENT, one, one, [2, 2]), True)
        self.assertIs(leads(SENT, one, one, [1, 1]), False)
        self.assertIs(leads(SENT, one, other, [1, 1, 2]), False)

    def test_of_anything(self):
        for thing in ANYTHING:
            self.assertIs(self.says(thing), False)
            self.assertIs(leads(FREE, self.one, self.one, thing), thing == [])
        for thing in ((), (0, 1, 0), "010", {0: 1}, None, 0, [[0], 1, 0], [(0, 1, 0)], ["0", 1, 0]):
            self.assertIs(self.says(thing), False)
        self.assertIs(leads(FREE, self.one, self.one, ()), False)

    def test_wrong_ones_in_every_place(self):
        for k in range(3):
            for wrong in NEVER + (GREAT, -GREAT, 3, -1, -3):
                row = [0, 1, 0]
                row[k] = wrong
                self.assertIs(self.says(row), False)
        self.assertIs(self.says([False, True, False]), False)

    def test_numbers_far_off(self):
        for p in (3, 4, 40, 400, GREAT, -1, -2, -4, -GREAT):
            self.assertIs(self.says([p]), False)
            self.assertIs(self.says([p, p]), False)
            self.assertIs(self.says([0, 1, 0, p]), False)
        for p in (0, -1, 1):
            self.assertIs(leads(FREE, [], [], [p]), False)
            self.assertIs(leads(FREE, [0], [0], [p]), False)

    def test_drawn_beside_a_walk_by_the_second_reading(self):
        seen = {True: 0, False: 0}
        for seed in range(150):
            draw = Draw(seed)
            net = draw.net(longest=6)
            one = drawn_full(draw, net, draw.many(2, 9))
            there, row, right = one, [], True
            for _ in range(draw.many(0, 6)):
                p = draw.many(-1, len(one)) if draw.many(0, 9) == 0 else draw.many(0, max(0, len(one) - 2))
                row.append(p)
                right = right and p in near(net, there)
                there = turned(there, p) if right else there
            seen[right] += 1
            self.assertIs(leads(net, one, there, row), right, seed)
        self.assertGreater(min(seen.values()), 20)

    def test_by_names(self):
        self.assertIs(leads(thing=[0], other=[1, 0], one=(0, 1), net=FREE), True)


class TestRefusals(unittest.TestCase):
    def test_no_net(self):
        for thing in ANYTHING + (list(FREE), ((), ()), (FREE[0], list(FREE[1]))):
            if thing == ((), ((),)):
                continue
            for weaving in ([], None, [9], [0] * 41):
                self.assertRaises(NoNet, is_full, thing, weaving)
                self.assertRaises(NoNet, is_whole, thing, weaving)
                self.assertRaises(NoNet, exchanges, thing, weaving, weaving)
                self.assertRaises(NoNet, exchanges, thing, [], weaving)
                self.assertRaises(NoNet, leads, thing, weaving, weaving, None)

    def test_no_weaving(self):
        for thing in WRONG:
            self.assertRaises(NoWeaving, is_full, SENT, thing)
            self.assertRaises(NoWeaving, is_whole, SENT, thing)
            self.assertRaises(NoWeaving, exchanges, SENT, thing, [0])
            self.assertRaises(NoWeaving, exchanges, SENT, [0], thing)
            self.assertRaises(NoWeaving, exchanges, SENT, thing, thing)
            self.assertRaises(NoWeaving, leads, SENT, thing, [0], [])
            self.assertRaises(NoWeaving, leads, SENT, [0], thing, None)

    def test_no_weaving_ahead_of_not_full(self):
        for thing in WRONG:
            self.assertRaises(NoWeaving, exchanges, SENT, thing, [1])
            self.assertRaises(NoWeaving, exchanges, SENT, [1], thing)
            self.assertRaises(NoWeaving, leads, SENT, (1,), thing, [True])
            self.assertRaises(NoWeaving, leads, SENT, thing, (1,), {})

    def test_wrong_numbers_in_every_place(self):
        for k in range(3):
            for wrong in NEVER + (2, -1, "0", (0,), [0]):
                weaving = [0, 0, 1]
                weaving[k] = wrong
                for thing in (weaving, tuple(weaving)):
                    self.assertRaises(NoWeaving, is_full, SENT, thing)
                    self.assertRaises(NoWeaving, is_whole, SENT, thing)
                    self.assertRaises(NoWeaving, exchanges, SENT, [0, 0, 1], thing)

    def test_of_anything(self):
        for thing in ANYTHING:
            if thing in ((), [], (0,), [0], (0, 1)) and thing != (True,) or thing == (0,):
                continue
            self.assertRaises(NoWeaving, is_full, SENT, thing)
            self.assertRaises(NoWeaving, is_whole, SENT, thing)


class TestNothingIsChanged(unittest.TestCase):
    def test_what_is_handed_in(self):
        one, other, row = [0, 0, 0, 1], [0, 0, 1, 0], [2]
        kept = copy.deepcopy((one, other, row))
        for _ in range(2):
            self.assertIs(is_full(SENT, one), True)
            self.assertIs(is_whole(SENT, one), False)
            self.assertEqual(exchanges(SENT, one, other), [2])
            self.assertIs(leads(SENT, one, other, row), True)
        self.assertEqual((one, other, row), kept)

    def test_rows_are_the_askers(self):
        row = exchanges(FREE, (0, 1, 2), (2, 1, 0))
        kept = list(row)
        row.append(9)
        row[0] = None
        self.assertEqual(exchanges(FREE, (0, 1, 2), (2, 1, 0)), kept)
        empty = exchanges(FREE, (), ())
        empty.append(1)
        self.assertEqual(exchanges(FREE, (), ()), [])


class TestOneEnd(unittest.TestCase):
    def all_told(self, net, weaving):
        machine = Machine(net)
        self.assertEqual(machine.weave(weaving), tuple(weaving))
        actors = range(len(net[1]))
        return (
            [(machine.at(a), machine.waits(a), machine.told(a), machine.heap_case(a)) for a in actors],
            [machine.boxes(address) for a in actors for address in machine.heap(a)],
            [machine.channel(m) for m in range(len(net[0]))], machine.copied(), machine.steps(), machine.is_still(),
        )

    def test_each_weaving_on_the_way_comes_to_the_same(self):
        for seed in range(60):
            draw = Draw(seed)
            net = draw.net(longest=7)
            one = drawn_full(draw, net, 25)
            other = shuffled(draw, net, one, 30)
            wanted = self.all_told(net, one)
            there = one
            for p in exchanges(net, one, other):
                there = turned(there, p)
                self.assertEqual(self.all_told(net, there), wanted, seed)


if __name__ == "__main__":
    unittest.main()
