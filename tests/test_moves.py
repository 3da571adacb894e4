"""Points 16 and 17: copied or given."""

import unittest

from giveway.charts import is_bar, is_chart, is_way, paper
from giveway.code import flat, is_code, is_own
from giveway.errors import NoCode, NoNet, NoRow
from giveway.moves import case_of, is_safe, least, must_copy, paper_of, unsafe
from giveway.nets import is_net
from tests.drawn import Draw
from tests.test_code import HANDING, ROWS, WRONG
from tests.things import ANYTHING, NEVER, spoiled

SEND = ("send", 0, "G", "give")
TELL = ("tell", "a")

# For each deed the names that it uses, and the name that it fills.
NAMES = (
    (("num", "a", 1), "", ""),
    (("sum", "a", "b", "+", "c"), "", ""),
    (("new", "G"), "", "G"),
    (("let", "G", "H", "copy"), "H", "G"),
    (("add", "G", "a"), "G", ""),
    (("put", "G", "a", 0, "b"), "G", ""),
    (("tie", "G", "a", 0, "b"), "G", ""),
    (("hang", "G", "a", 0, "H", "copy"), "GH", ""),
    (("get", "a", "G", "b", 0), "G", ""),
    (("sort", "a", "G", "b", 0), "G", ""),
    (("pick", "G", "H", "a", 0, "copy"), "H", "G"),
    (("pick", "G", "G", "a", 0, "copy"), "G", "G"),
    (("send", 1, "G", "copy"), "G", ""),
    (("take", "G", 2), "", "G"),
    (("tell", "a"), "", ""),
    (("show", "G"), "G", ""),
    (("test", "a"), "", ""),
)


def line(*deeds):
    """Flat code that goes from row to row to its end."""
    rows = []
    for number, deed in enumerate(deeds):
        after = number + 1 if number + 1 < len(deeds) else -1
        rows.append((deed, (after, after) if deed[0] == "test" else (after,)))
    return tuple(rows)


def spent(deed):
    return deed[2] if deed[0] in ("let", "pick", "send") else deed[4]


def way_by_hand(rows, row):
    """The least of the shortest ways from behind a row to a use of what it spends, None where there is none.

    Written from the document alone: all ways of one more row at a time, each in rising order.
    """
    wanted = {deed: (used, filled) for deed, used, filled in NAMES}
    name = spent(rows[row][0])

    def judged(at):
        deed = rows[at][0]
        plain = deed[:-1] + ("copy",) if deed[0] in HANDING else deed
        used, filled = wanted[plain]
        return name in used, name == filled

    if judged(row)[1]:
        return None
    ways = [(after,) for after in rows[row][1] if after != -1]
    seen = set()
    while ways:
        for way in sorted(ways):
            if judged(way[-1])[0]:
                return way
        longer = []
        for way in sorted(ways):
            if way[-1] not in seen and not judged(way[-1])[1]:
                seen.add(way[-1])
                longer += [way + (after,) for after in rows[way[-1]][1] if after != -1]
        ways = longer
    return None


def drawn_rows(seed):
    """Flat code of deeds of NAMES, with nexts drawn."""
    draw = Draw(seed)
    deeds = [draw.one(NAMES)[0] for _ in range(draw.many(0, 14))]
    rows = tuple((deed, tuple(draw.many(-1, len(deeds) - 1) for _ in range(1 + (deed[0] == "test")))) for deed in deeds)
    return draw.ways((rows,))[0]


def handing_rows(rows):
    return [number for number, (deed, _) in enumerate(rows) if deed[0] in HANDING]


class TestCase(unittest.TestCase):
    def test_a_line(self):
        rows = line(("new", "G"), SEND, ("show", "G"), ("new", "G"), ("show", "G"))
        self.assertEqual(case_of(rows, 1), (((), (2,), (3,), (), ()), (2,), (1, 2, 4)))
        self.assertEqual(paper_of(rows, 1), ("way", (2,)))

    def test_uses_and_fills(self):
        for deed, used, filled in NAMES:
            for name in "GHK":
                rows = line(("send", 0, name, "copy"), deed, TELL)
                chart, starts, goals = case_of(rows, 0)
                self.assertEqual(1 in goals, name in used, (deed, name))
                self.assertEqual(chart[1], () if name == filled else (2,), (deed, name))
                self.assertEqual(starts, (1,))

    def test_what_is_spent(self):
        for deed, name in (
            (("let", "G", "H", "give"), "H"), (("hang", "G", "a", 0, "H", "give"), "H"),
            (("pick", "G", "H", "a", 0, "give"), "H"), (("send", 0, "G", "give"), "G"),
        ):
            for other in "GHK":
                rows = line(deed, ("show", other))
                self.assertEqual(paper_of(rows, 0), ("way", (1,)) if other == name else ("bar", (1,)))

    def test_the_end_is_left_out(self):
        rows = line(SEND)
        self.assertEqual(case_of(rows, 0), (((),), (), (0,)))
        self.assertEqual(paper_of(rows, 0), ("bar", ()))

    def test_a_row_that_fills_what_it_spends(self):
        rows = ((("pick", "G", "G", "a", 0, "give"), (1,)), (("show", "G"), (0,)))
        self.assertEqual(case_of(rows, 0), (((), (0,)), (), (0, 1)))
        self.assertEqual(paper_of(rows, 0), ("bar", ()))
        self.assertEqual((must_copy(rows), unsafe(rows)), ((), None))

    def test_tests_go_on_both_ways(self):
        rows = ((SEND, (1,)), (("test", "a"), (2, 3)), (TELL, (-1,)), (("show", "G"), (-1,)))
        self.assertEqual(case_of(rows, 0), (((1,), (2, 3), (), ()), (1,), (0, 3)))
        self.assertEqual(paper_of(rows, 0), ("way", (1, 3)))

    def test_nexts_rise_and_come_once(self):
        rows = ((SEND, (1,)), (("test", "a"), (2, 0)), (("test", "a"), (1, 1)), (("test", "b"), (-1, 2)))
        self.assertEqual(case_of(rows, 0), (((1,), (0, 2), (1,), (2,)), (1,), (0,)))
        self.assertTrue(is_chart(case_of(rows, 0)[0]))
        ends = ((SEND, (1,)), (("test", "a"), (-1, -1)))
        self.assertEqual(case_of(ends, 0), (((1,), ()), (1,), (0,)))

    def test_a_row_that_comes_to_itself(self):
        rows = ((SEND, (0,)),)
        self.assertEqual(case_of(rows, 0), (((0,),), (0,), (0,)))
        self.assertEqual(paper_of(rows, 0), ("way", (0,)))
        filled = ((("new", "G"), (1,)), (SEND, (0,)))
        self.assertEqual(paper_of(filled, 1), ("bar", (0,)))

    def test_rows_that_nothing_leads_to(self):
        rows = ((TELL, (-1,)), (SEND, (2,)), (("show", "G"), (-1,)))
        self.assertEqual(paper_of(rows, 1), ("way", (2,)))
        self.assertEqual((must_copy(rows), unsafe(rows)), ((1,), (1, (2,))))

    def test_several_ways(self):
        test = ("test", "a")
        rows = ((SEND, (1,)), (test, (3, 2)), (test, (5, 4)), (test, (4, 5)), (("show", "G"), (-1,)), (("show", "G"), (-1,)))
        self.assertEqual(paper_of(rows, 0), ("way", (1, 2, 4)))

    def test_fewer_rows_go_first(self):
        test = ("test", "a")
        rows = ((SEND, (1,)), (test, (2, 4)), (TELL, (3,)), (("show", "G"), (-1,)), (("show", "G"), (-1,)))
        self.assertEqual(paper_of(rows, 0), ("way", (1, 4)))

    def test_case_and_paper_are_of_charts(self):
        for seed in range(200):
            rows = drawn_rows(seed)
            for row in handing_rows(rows):
                chart, starts, goals = case_of(rows, row)
                word, points = paper_of(rows, row)
                self.assertEqual(paper(chart, starts, goals), (word, points))
                judge = is_way if word == "way" else is_bar
                self.assertIs(judge(chart, starts, goals, points), True)

    def test_by_hand(self):
        ways = bars = 0
        for seed in range(400):
            rows = drawn_rows(seed)
            for row in handing_rows(rows):
                way = way_by_hand(rows, row)
                ways += way is not None
                bars += way is None
                self.assertEqual(paper_of(rows, row)[0], "bar" if way is None else "way", (seed, row))
                if way is not None:
                    self.assertEqual(paper_of(rows, row), ("way", way), (seed, row))
        self.assertGreater(min(ways, bars), 200)

    def test_no_row(self):
        rows = ROWS + ((SEND, (-1,)),)
        handing = handing_rows(rows)
        self.assertEqual(handing, [3, 7, 10, 11, 16])
        for ask in (case_of, paper_of):
            for row in range(-20, 30):
                if row in handing:
                    self.assertEqual(len(ask(rows, row)), 3 if ask == case_of else 2)
                else:
                    self.assertRaises(NoRow, ask, rows, row)
            for row in NEVER + ("3", (3,), [3], {3: 3}):
                self.assertRaises(NoRow, ask, rows, row)
            self.assertRaises(NoRow, ask, (), 0)
            self.assertRaises(NoRow, ask, rows=rows, row=0)

    def test_a_truth_is_no_row(self):
        rows = line(SEND, SEND)
        self.assertRaises(NoRow, case_of, rows, True)
        self.assertRaises(NoRow, case_of, rows, False)


class TestNoCode(unittest.TestCase):
    asks = (must_copy, unsafe, lambda rows: case_of(rows, 0), lambda rows: paper_of(rows, None))

    def assert_none(self, rows):
        for ask in self.asks:
            self.assertRaises(NoCode, ask, rows)

    def test_anything(self):
        for thing in ANYTHING:
            if thing != ():
                self.assert_none(thing)
        self.assertEqual((must_copy(()), unsafe(())), ((), None))
        self.assertEqual((must_copy(rows=()), unsafe(rows=())), ((), None))

    def test_bent(self):
        for rows in spoiled(ROWS, WRONG):
            self.assert_none(rows)

    def test_all_code_of_a_net(self):
        self.assert_none((ROWS,))
        self.assert_none(((),))

    def test_channels(self):
        for m in range(6):
            self.assertIsNone(unsafe(line(("send", m, "G", "give"))))
            self.assertIsNone(unsafe(line(("take", "G", m))))
            self.assert_none(line(("send", m, "G", "give"), ("take", "G", m)))
            self.assert_none(line(("take", "H", m), TELL, ("send", m, "G", "copy")))
            self.assertEqual(must_copy(line(("send", m, "G", "give"), ("take", "G", (m + 1) % 6))), ())
        for m in (-1, 6, 7):
            self.assert_none(line(("send", m, "G", "give")))
            self.assert_none(line(("take", "G", m)))

    def test_all_six_channels(self):
        deeds = [("send", m, "G", "copy") for m in range(3)] + [("take", "G", m) for m in range(3, 6)]
        self.assertEqual(must_copy(line(*deeds)), (0, 1))

    def test_forty_rows(self):
        self.assertIsNone(unsafe(((TELL, (-1,)),) * 40))
        self.assert_none(((TELL, (-1,)),) * 41)

    def test_rows_ahead_of_row(self):
        self.assertRaises(NoCode, case_of, None, None)
        self.assertRaises(NoCode, paper_of, [], "x")


class TestSafe(unittest.TestCase):
    rows = line(("let", "G", "H", "give"), ("send", 0, "G", "give"), ("show", "H"), ("send", 0, "H", "give"), ("show", "H"))

    def test_unsafe_tells_the_least_row(self):
        self.assertEqual(unsafe(self.rows), (0, (1, 2)))
        self.assertEqual(must_copy(self.rows), (0, 3))
        first = ((self.rows[0][0][:-1] + ("copy",), (1,)),) + self.rows[1:]
        self.assertEqual(unsafe(first), (3, (4,)))
        self.assertEqual(must_copy(first), (0, 3))

    def test_all_copying(self):
        for seed in range(100):
            net = Draw(seed).net()
            self.assertIs(is_safe(net, flat(net)), True)
            for rows in flat(net):
                self.assertIsNone(unsafe(rows))

    def test_all_giving(self):
        for seed in range(200):
            rows = drawn_rows(seed)
            given = tuple((deed[:-1] + ("give",), nexts) if deed[0] in HANDING else (deed, nexts) for deed, nexts in rows)
            wanted = must_copy(rows)
            if wanted:
                self.assertEqual(unsafe(given), (wanted[0], paper_of(rows, wanted[0])[1]))
            else:
                self.assertIsNone(unsafe(given))

    def test_must_copy_hangs_on_no_last_part(self):
        for seed in range(100):
            rows = drawn_rows(seed)
            self.assertEqual(must_copy(Draw(seed).ways((rows,))[0]), must_copy(rows))

    def test_giving_at_just_one_row_that_must_copy(self):
        for seed in range(100):
            net = Draw(seed).net()
            fewest = least(net)
            for actor, rows in enumerate(fewest):
                for row in must_copy(rows):
                    deed, nexts = rows[row]
                    bent = rows[:row] + ((deed[:-1] + ("give",), nexts),) + rows[row + 1:]
                    self.assertEqual(unsafe(bent), (row, paper_of(rows, row)[1]))
                    self.assertIs(is_safe(net, fewest[:actor] + (bent,) + fewest[actor + 1:]), False)

    def test_names_that_are_words(self):
        rows = line(SEND, ("tell", "give"), ("test", "copy"), ("tell", "copy"))
        self.assertEqual((must_copy(rows), unsafe(rows)), ((), None))

    def test_is_safe_refuses(self):
        net = (((0, 1),), ((TELL,), ()))
        for thing in ANYTHING:
            if not is_net(thing):
                self.assertRaises(NoNet, is_safe, thing, None)
            if thing != ((), ()):
                self.assertRaises(NoCode, is_safe, net, thing)
        self.assertRaises(NoCode, is_safe, net=net, code=(line(("take", "G", 0)), ()))
        self.assertIs(is_safe(net, (line(SEND), line(("take", "G", 0)))), True)
        self.assertIs(is_safe(net, ((), line(("let", "G", "H", "give"), ("show", "H")))), False)


class TestLeast(unittest.TestCase):
    net = (((0, 1),), ((("let", "G", "H"), ("send", 0, "G"), ("show", "H"), ("send", 0, "H")), (("take", "G", 0),)))

    def test_least(self):
        self.assertEqual(least(self.net), (
            (
                (("let", "G", "H", "copy"), (1,)), (("send", 0, "G", "give"), (2,)), (("show", "H"), (3,)),
                (("send", 0, "H", "give"), (-1,)),
            ),
            ((("take", "G", 0), (-1,)),),
        ))

    def test_with_and_without_code(self):
        self.assertEqual(least(self.net, None), least(self.net))
        self.assertEqual(least(net=self.net, code=flat(self.net)), least(self.net))
        for seed in range(100):
            draw = Draw(seed)
            net = draw.net()
            self.assertEqual(least(net, draw.ways(flat(net))), least(net))

    def test_of_other_code(self):
        code = (((SEND, (1,)), (("hang", "K", "a", 0, "G", "copy"), (0,))), ())
        self.assertEqual(least(self.net, code), (((("send", 0, "G", "copy"), (1,)), (("hang", "K", "a", 0, "G", "copy"), (0,))), ()))
        ended = (((SEND, (-1,)), (("hang", "K", "a", 0, "G", "copy"), (0,))), ())
        self.assertEqual(least(self.net, ended), (((SEND, (-1,)), (("hang", "K", "a", 0, "G", "copy"), (0,))), ()))

    def test_copies_just_where_it_must(self):
        for seed in range(150):
            draw = Draw(seed)
            net = draw.net()
            for code in (None, draw.other_code(net)):
                fewest = least(net, code)
                self.assertIs(is_code(net, fewest), True)
                self.assertIs(is_safe(net, fewest), True)
                self.assertIs(is_own(net, fewest), True if code is None else is_own(net, code))
                for rows in fewest:
                    copied = [row for row in handing_rows(rows) if rows[row][0][-1] == "copy"]
                    self.assertEqual(tuple(copied), must_copy(rows))

    def test_every_safe_code_copies_there(self):
        # All last parts of a net of six rows that hand on.
        net = (((0, 1),), ((
            ("let", "G", "H"), ("hang", "H", "a", 0, "G"), ("pick", "K", "H", "a", 0), ("send", 0, "K"),
            ("pick", "H", "H", "a", 0), ("send", 0, "H"),
        ), ()))
        wanted = must_copy(flat(net)[0])
        self.assertEqual(wanted, (0, 2))
        for choice in range(64):
            ways = ["give" if choice >> row & 1 else "copy" for row in range(6)]
            rows = tuple((deed[:-1] + (way,), nexts) for (deed, nexts), way in zip(flat(net)[0], ways))
            self.assertIs(is_safe(net, (rows, ())), ways[0] == ways[2] == "copy")

    def test_refusals(self):
        for thing in ANYTHING:
            if not is_net(thing):
                self.assertRaises(NoNet, least, thing)
                self.assertRaises(NoNet, least, thing, 5)
            if thing is not None and thing != ((), ()):
                self.assertRaises(NoCode, least, self.net, thing)
                self.assertRaises(NoCode, least, self.net, code=thing)


if __name__ == "__main__":
    unittest.main()
