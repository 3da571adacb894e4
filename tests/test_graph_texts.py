"""Point 27: graphs, written and read."""

import itertools
import re
import unittest

from giveway.errors import NoGraph, NoText
from giveway.graphs import boxes_in, depth_of, is_graph
from giveway.reading import Reading
from giveway.texts import graph_text, read_graph
from tests.drawn import GRAPHS, Draw
from tests.things import ANYTHING, is_plain, spoiled

BOX = (0, 0, 0)
BARE = (BOX,)
EIGHT = (BOX,) * 8

WRITTEN = (
    (BARE, "[0 0 0]"),
    (((1, -2, 9999), (-9999, 10, -10)), "[1 -2 9999][-9999 10 -10]"),
    (((("tie", 0), 0, ("tie", 1)), (("tie", 0), 5, 0)), "[~0 0 ~1][~0 5 0]"),
    (((BARE, 0, 0),), "[([0 0 0]) 0 0]"),
    (((0, ((1, BARE, ("tie", 0)), BOX), ("tie", 1)), (7, 0, BARE)), "[0 ([1 ([0 0 0]) ~0][0 0 0]) ~1][7 0 ([0 0 0])]"),
    (((((((((4, 0, 0),), 3, 0),), 2, 0),), 1, 0),), "[([([([4 0 0]) 3 0]) 2 0]) 1 0]"),
    (EIGHT, "[0 0 0]" * 8),
    (((EIGHT, EIGHT, 0),) + (BOX,) * 7, "[(" + "[0 0 0]" * 8 + ") (" + "[0 0 0]" * 8 + ") 0]" + "[0 0 0]" * 7),
)

NUMBER = r"(?:0|-?[1-9][0-9]{0,3})"
SIGNS = "[]() ~-0123789.,+a\t\n\\"


def form(deep):
    """What the text of a graph that is at most so deep looks like, whatever its ties and how many boxes it has."""
    place = rf"(?:{NUMBER}|~[0-7])" if deep == 1 else rf"(?:{NUMBER}|~[0-7]|\({form(deep - 1)}\))"
    return rf"(?:\[{place} {place} {place}\])+"


FORM = re.compile(form(4))


def by_hand(text):
    """The graph that is written so, read by turning the text into Python's own; None of what is none."""
    if FORM.fullmatch(text) is None:
        return None
    words = re.sub(r"~(\d)", r"('tie',\1)", text).replace(" ", ",").replace("[", "(").replace("]", "),")
    graph = eval("(" + words + ")", {"__builtins__": {}})
    return graph if is_graph(graph) else None


def row_of(text):
    """The row of the refusal; None where it is read."""
    try:
        read_graph(text)
    except NoText as refused:
        return refused.row
    return None


class TestWritten(unittest.TestCase):
    def test_written_and_read(self):
        for graph, text in WRITTEN:
            self.assertIs(is_graph(graph), True)
            self.assertEqual(graph_text(graph), text)
            self.assertEqual(read_graph(text), graph)
            self.assertTrue(is_plain(read_graph(text)))

    def test_by_names(self):
        self.assertEqual(graph_text(graph=BARE), "[0 0 0]")
        self.assertEqual(read_graph(text="[0 0 0]"), BARE)

    def test_numbers(self):
        for number in (-9999, -1000, -10, -1, 0, 1, 9, 10, 99, 100, 101, 1000, 9999):
            for k in range(3):
                graph = (BOX[:k] + (number,) + BOX[k + 1:],)
                text = "[" + " ".join(str(place) for place in graph[0]) + "]"
                self.assertEqual(graph_text(graph), text)
                self.assertEqual(read_graph(text), graph)

    def test_ties(self):
        for b in range(8):
            graph = ((("tie", b), 0, 0),) + (BOX,) * 7
            self.assertEqual(graph_text(graph), f"[~{b} 0 0]" + "[0 0 0]" * 7)
            self.assertEqual(read_graph(graph_text(graph)), graph)

    def test_no_graph(self):
        graph = WRITTEN[4][0]
        for thing in ANYTHING + ((BOX,) * 9, ((10_000, 0, 0),), ((("tie", 1), 0, 0),), "[0 0 0]", [BOX]):
            if not is_graph(thing):
                self.assertRaises(NoGraph, graph_text, thing)
        for thing in spoiled(graph):
            if not is_graph(thing):
                self.assertRaises(NoGraph, graph_text, thing)

    def test_drawn_graphs_are_read_to_themselves(self):
        graphs = set()
        for seed in range(120):
            draw = Draw(seed)
            net = draw.net()
            reading = Reading(net)
            reading.weave(draw.weaving(net, 200))
            graphs |= {reading.holds(actor, name) for actor in range(len(net[1])) for name in GRAPHS}
        self.assertGreater(len(graphs), 50)
        self.assertEqual(max(depth_of(graph) for graph in graphs), 4)
        self.assertGreater(max(boxes_in(graph) for graph in graphs), 8)
        for graph in graphs:
            text = graph_text(graph)
            self.assertEqual(read_graph(text), graph)
            self.assertEqual(by_hand(text), graph)
        self.assertEqual(len({graph_text(graph) for graph in graphs}), len(graphs))


class TestRead(unittest.TestCase):
    def assert_read_as_by_hand(self, text):
        wanted = by_hand(text)
        if wanted is None:
            self.assertEqual(row_of(text), 0, text)
        else:
            self.assertEqual(read_graph(text), wanted, text)

    def test_every_sign_left_out_put_in_or_otherwise(self):
        read = 0
        for graph, text in WRITTEN[:6]:
            for at in range(len(text) + 1):
                texts = [text[:at] + sign + text[at:] for sign in SIGNS]
                texts += [text[:at] + sign + text[at + 1:] for sign in SIGNS if at < len(text)]
                texts += [text[:at], text[at:], text[:at] + text[at + 1:], text[:at] + text[at:at + 1] + text[at:]]
                for other in texts:
                    self.assert_read_as_by_hand(other)
                    read += by_hand(other) is not None
        self.assertGreater(read, 100)

    def test_noughts_ahead(self):
        for word in ("00", "01", "-0", "-01", "-00", "+1", "--1", "-", "1-", "0x1", "1_0", "", "~", "~-1", "~00", "~01",
                     "~-0", "~~0", "~1", "-~0", "~a", "a", "1.0", "1,0", "()", "(0)", "[0 0 0]", "(~0)"):
            for k in range(3):
                words = ["0", "0", "0"]
                words[k] = word
                self.assertEqual(row_of("[" + " ".join(words) + "]"), 0, word)

    def test_numbers_one_beyond(self):
        for number in (9999, -9999):
            self.assertEqual(read_graph(f"[{number} 0 0]"), ((number, 0, 0),))
        for number in (10_000, -10_000, 99_999, 10 ** 29, -(10 ** 29)):
            for text in (f"[{number} 0 0]", f"[0 {number} 0]", f"[0 0 {number}]", f"[([{number} 0 0]) 0 0]"):
                self.assertEqual(row_of(text), 0)
        for text in ("[" + "9" * 7_990 + " 0 0]", "[" + "0" * 7_990 + " 0 0]", "[-" + "1" * 5_000 + " 0 0]"):
            self.assertEqual(row_of(text), 0)

    def test_ties_one_beyond(self):
        for many in range(1, 9):
            rest = "[0 0 0]" * (many - 1)
            self.assertEqual(read_graph(f"[0 ~{many - 1} 0]{rest}")[0][1], ("tie", many - 1))
            for b in (many, many + 1, 9, 10, 10 ** 9):
                self.assertEqual(row_of(f"[0 ~{b} 0]{rest}"), 0)
        self.assertEqual(row_of("[([0 ~1 0]) 0 0][0 0 0]"), 0)
        self.assertEqual(row_of("[([0 0 0][0 0 0]) ~1 0]"), 0)

    def test_eight_boxes_and_nine(self):
        self.assertEqual(read_graph("[0 0 0]" * 8), EIGHT)
        self.assertEqual(row_of("[0 0 0]" * 9), 0)
        self.assertEqual(row_of("[(" + "[0 0 0]" * 9 + ") 0 0]"), 0)
        self.assertEqual(row_of("[0 0 0]" * 1_100), 0)

    def test_twenty_four_in_all_and_one_more(self):
        eight = "(" + "[0 0 0]" * 8 + ")"
        self.assertEqual(boxes_in(read_graph(f"[{eight} {eight} 0]" + "[0 0 0]" * 7)), 24)
        self.assertEqual(row_of(f"[{eight} {eight} ([0 0 0])]" + "[0 0 0]" * 7), 0)
        self.assertEqual(row_of(f"[{eight} {eight} {eight}]"), 0)

    def test_four_deep_and_five(self):
        text = "[0 0 0]"
        for deep in range(2, 7):
            text = f"[0 ({text}) 0]"
            if deep <= 4:
                self.assertEqual(depth_of(read_graph(text)), deep)
            else:
                self.assertEqual(row_of(text), 0)
        for deep in (10, 100, 2_000):
            self.assertEqual(row_of("[(" * deep), 0)
            self.assertEqual(row_of("[(" * (deep // 2) + "[0 0 0]" + ") 0 0]" * (deep // 2)), 0)
        self.assertEqual(row_of("(" * 8_000), 0)
        self.assertEqual(row_of("[" * 8_000), 0)

    def test_blanks_tabs_and_line_ends(self):
        for text in ("", " ", "[0  0 0]", "[ 0 0 0]", "[0 0 0 ]", " [0 0 0]", "[0 0 0] ", "[0 0 0] [0 0 0]", "[0\t0 0]",
                     "[0 0 0]\n", "\n[0 0 0]", "[0\n0 0]", "[0 0 0]\n[0 0 0]", "[( [0 0 0]) 0 0]", "[([0 0 0] ) 0 0]",
                     "[000]", "[0 0]", "[0 0 0 0]", "[]", "[ ]", "[  ]", "0 0 0", "([0 0 0])", "[~ 0 0 0]", "[- 1 0 0]"):
            self.assertEqual(row_of(text), 0, text)

    def test_no_text(self):
        for thing in ANYTHING + (BARE, [BARE], ("[0 0 0]",), ["[0 0 0]"], {"[0 0 0]": 0}):
            self.assertEqual(row_of(thing), 0)

    def test_three_places(self):
        for words in itertools.product(("0", "~0", "([0 0 0])", "-7"), repeat=3):
            self.assertIsNotNone(by_hand("[" + " ".join(words) + "]"))
            self.assert_read_as_by_hand("[" + " ".join(words) + "]")
            self.assert_read_as_by_hand("[" + " ".join(words[:2]) + "]")
            self.assert_read_as_by_hand("[" + " ".join(words + ("0",)) + "]")


if __name__ == "__main__":
    unittest.main()
