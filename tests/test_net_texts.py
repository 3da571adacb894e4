"""Point 28: nets, written and read."""

import itertools
import unittest

from giveway.errors import NoNet, NoText
from giveway.nets import is_net
from giveway.texts import net_text, read_net
from tests.drawn import Draw
from tests.things import ANYTHING, is_plain, spoiled

TELL = ("tell", "a")
CHANNELS = ((0, 1), (1, 0), (2, 3))

# Each statement that point 8 lists, of actor 0 of a net with these channels, and its row.
STATEMENTS = (
    (("num", "a", 0), "num a 0"), (("num", "abcdef", -9999), "num abcdef -9999"), (("num", "z", 9999), "num z 9999"),
    (("sum", "a", "b", "+", "c"), "sum a b + c"), (("sum", "a", "a", "-", "a"), "sum a a - a"),
    (("sum", "a", "b", "*", "c"), "sum a b * c"), (("sum", "a", "b", "<", "c"), "sum a b < c"),
    (("sum", "a", "b", "=", "c"), "sum a b = c"), (("new", "G"), "new G"), (("let", "G", "Habcde"), "let G Habcde"),
    (("add", "G", "a"), "add G a"), (("put", "G", "b", 0, "c"), "put G b 0 c"), (("tie", "G", "b", 1, "c"), "tie G b 1 c"),
    (("hang", "G", "b", 2, "H"), "hang G b 2 H"), (("get", "a", "G", "b", 2), "get a G b 2"),
    (("sort", "a", "G", "b", 0), "sort a G b 0"), (("pick", "G", "H", "b", 1), "pick G H b 1"),
    (("pick", "G", "G", "b", 1), "pick G G b 1"), (("send", 0, "G"), "send 0 G"), (("take", "G", 1), "take G 1"),
    (("tell", "a"), "tell a"), (("show", "G"), "show G"), (("tell", "num"), "tell num"), (("tell", "actor"), "tell actor"),
    (("show", "Else"), "show Else"),
)
WRONG_ROWS = (
    "", " ", "num", "num a", "num a 1 1", "num A 1", "num a 01", "num a -0", "num a +1", "num a 10000", "num a -10000",
    "num a a", "num abcdefg 1", "num 1 a", "num a ~1", "num a " + "9" * 7000, "sum a b c", "sum a b / c", "sum a b +",
    "sum a b ++ c", "sum a b + C", "sum a + b c", "new g", "new", "new G H", "let G G", "let G g", "let G", "add G G",
    "add a G", "put G b 3 c", "put G b -1 c", "put G b 00 c", "put G b c c", "put g b 0 c", "put G b 0 1", "tie G b 0 C",
    "hang G b 0 G", "hang G b 3 H", "hang G b 0 h", "get G a b 0", "get a G b 3", "sort a G b", "pick G b 0", "pick g G b 0",
    "send G 0", "send 1 G", "send 2 G", "send 3 G", "send -1 G", "send 00 G", "send 0 g", "take 1 G", "take G 0", "take G 2",
    "take G 3", "take g 1", "tell A", "tell 1", "tell", "show a", "show G G", "test a", "copy", "let G H copy", "send 0 G give",
    "NUM a 1", "Num a 1", "if", "if A", "if 1", "if a b", "while", "while G", "while a ()", "if a () ()", "else", "else if a",
    "channels", "channels 0>1", "actor 0", "Actor", "actor ", " actor", "  actor", "actors", "num a 1 ", " num a 1",
    "num  a 1", "num a  1", "num\ta 1", "\tnum a 1", "num a 1\t", "tell a;", "#", "tell a tell a", "[0 0 0]", "()", "('tell', 'a')",
    "  tell a", "   tell a", "    tell a",
)


def row_of(text):
    """The row of the refusal; None where it is read."""
    try:
        read_net(text)
    except NoText as refused:
        return refused.row
    return None


def written(*blocks, channels=()):
    return (channels, tuple(tuple(block) for block in blocks))


def text_of(*rows):
    return "\n".join(rows)


def word_by_hand(word):
    digits = word[1:] if word[:1] == "-" else word
    return int(word) if len(word) < 9 and digits != "" and set(digits) <= set("0123456789") else word


def block_by_hand(rows, at, blanks):
    """The statements with so many blanks ahead from a row on, and the row behind them."""
    block = []
    while at < len(rows) and rows[at].startswith(" " * blanks) and rows[at].strip() not in ("else", "actor", ""):
        parts = tuple(word_by_hand(word) for word in rows[at].split())
        at += 1
        if parts[0] in ("if", "while"):
            inner, at = block_by_hand(rows, at, blanks + 2)
            parts += (inner,)
        if parts[0] == "if":
            other, at = block_by_hand(rows, at + 1, blanks + 2)
            parts += (other,)
        block.append(parts)
    return tuple(block), at


def net_by_hand(rows):
    """The net of which these are the rows, read leniently and written anew; None of what is none."""
    channels = tuple(tuple(word_by_hand(end) for end in word.split(">")) for word in rows[0].split(" ")[1:])
    actors, at = [], 1
    while at < len(rows) and rows[at] == "actor":
        block, at = block_by_hand(rows, at + 1, 0)
        actors.append(block)
    net = (channels, tuple(actors))
    return net if is_net(net) and net_text(net) == "\n".join(rows) else None


def can_begin(rows):
    """Whether these rows are the begin of a written net: some rows `else` and `actor`, put behind them, make it one."""
    if not rows:
        return True
    actors = ["actor"] * (4 - rows.count("actor"))
    for wanted in itertools.product((0, 1), repeat=3):
        others = [" " * blanks + "else" for blanks, lacks in zip((4, 2, 0), wanted) if lacks]
        if net_by_hand(rows + others + actors) is not None:
            return True
    return False


def is_row_by_hand(text, row):
    """Whether it is the row that the document tells for a text, None for a written net."""
    rows = text.split("\n")
    if row is None or net_by_hand(rows) is not None:
        return row is None and net_by_hand(rows) is not None
    return can_begin(rows[:row - 1]) and (row == len(rows) + 1 or not can_begin(rows[:row]))


class TestWritten(unittest.TestCase):
    def assert_written(self, net, *rows):
        self.assertIs(is_net(net), True)
        self.assertEqual(net_text(net), text_of(*rows))
        self.assertEqual(read_net(text_of(*rows)), net)
        self.assertTrue(is_plain(read_net(text_of(*rows))))

    def test_least(self):
        self.assert_written(((), ((),)), "channels", "actor")
        self.assert_written(((), ((), (), (), ())), "channels", "actor", "actor", "actor", "actor")
        self.assertEqual(net_text(net=((), ((),))), "channels\nactor")
        self.assertEqual(read_net(text="channels\nactor"), ((), ((),)))

    def test_channels(self):
        self.assert_written((((0, 1),), ((), ())), "channels 0>1", "actor", "actor")
        for many in range(7):
            self.assert_written((((3, 0),) * many, ((),) * 4), "channels" + " 3>0" * many, *["actor"] * 4)
        for sender, taker in itertools.permutations(range(4), 2):
            self.assert_written((((sender, taker),), ((),) * 4), f"channels {sender}>{taker}", *["actor"] * 4)

    def test_each_statement(self):
        for statement, row in STATEMENTS:
            net = (CHANNELS, ((statement,), (), (), ()))
            self.assert_written(net, "channels 0>1 1>0 2>3", "actor", row, "actor", "actor", "actor")
            inner = (CHANNELS, ((("while", "a", (statement, statement)),), (), (), ()))
            self.assert_written(
                inner, "channels 0>1 1>0 2>3", "actor", "while a", "  " + row, "  " + row, "actor", "actor", "actor")

    def test_if_and_while(self):
        self.assert_written(written([("if", "a", (), ())]), "channels", "actor", "if a", "else")
        self.assert_written(written([("while", "b", ())]), "channels", "actor", "while b")
        self.assert_written(
            written([("if", "a", (TELL,), ()), TELL]), "channels", "actor", "if a", "  tell a", "else", "tell a")
        self.assert_written(
            written([("if", "a", (), (TELL, TELL)), TELL], []),
            "channels", "actor", "if a", "else", "  tell a", "  tell a", "tell a", "actor")
        self.assert_written(
            written([("while", "a", (TELL,)), ("while", "a", ()), TELL]),
            "channels", "actor", "while a", "  tell a", "while a", "tell a")

    def test_blocks_within_blocks(self):
        four = ("while", "c", (TELL,))
        three = ("if", "b", (four, TELL), (four,))
        two = ("while", "a", (TELL, three))
        self.assert_written(
            written([two, TELL], [("if", "a", (("if", "b", (("if", "c", (), ()),), ()),), (("while", "d", ()),))]),
            "channels", "actor", "while a", "  tell a", "  if b", "    while c", "      tell a", "    tell a", "  else",
            "    while c", "      tell a", "tell a", "actor", "if a", "  if b", "    if c", "    else", "  else", "else",
            "  while d")

    def test_most(self):
        blocks = [("while", "a", (TELL,) * 12)] * 3
        net = written(blocks + [TELL], *[[TELL] * 12] * 3, channels=((0, 3),) * 6)
        self.assert_written(
            net, "channels" + " 0>3" * 6, "actor", *(["while a"] + ["  tell a"] * 12) * 3, "tell a",
            *(["actor"] + ["tell a"] * 12) * 3)

    def test_no_net(self):
        right = (((0, 1),), ((("send", 0, "G"), ("if", "a", (TELL,), ())), ()))
        self.assertIs(is_net(right), True)
        for thing in ANYTHING + tuple(spoiled(right)) + ("channels\nactor",):
            if not is_net(thing):
                self.assertRaises(NoNet, net_text, thing)

    def test_drawn_nets_are_read_to_themselves(self):
        for seed in range(400):
            net = Draw(seed).net(deepest=3)
            text = net_text(net)
            self.assertEqual(read_net(text), net)
            self.assertTrue(is_row_by_hand(text, None))


class TestRead(unittest.TestCase):
    def test_no_text(self):
        for thing in ANYTHING + (((), ((),)), ["channels", "actor"], ("channels\nactor",)):
            if not isinstance(thing, str):
                self.assertEqual(row_of(thing), 0)

    def test_other_texts(self):
        for thing in ANYTHING:
            if isinstance(thing, str):
                self.assertEqual(row_of(thing), 1)
        self.assertEqual(row_of("\n" * 8_000), 1)
        self.assertEqual(row_of("channels" + "\n" * 7_000), 2)
        self.assertEqual(row_of("channels\n" + "actor\n" * 1_000), 6)

    def test_empty_text(self):
        self.assertEqual(row_of(""), 1)
        self.assertEqual(row_of("\n"), 1)
        self.assertEqual(row_of("\nchannels\nactor"), 1)

    def test_ends_with_a_line_end(self):
        self.assertEqual(row_of("channels\n"), 2)
        self.assertEqual(row_of("channels\nactor\n"), 3)
        self.assertEqual(row_of("channels\nactor\ntell a\n"), 4)
        self.assertEqual(row_of("channels\nactor\nif a\n"), 4)
        self.assertEqual(row_of("channels\n\nactor"), 2)

    def test_no_actor(self):
        self.assertEqual(row_of("channels"), 2)
        self.assertEqual(row_of("channels 0>1"), 2)
        self.assertEqual(row_of("channels\ntell a"), 2)
        self.assertEqual(row_of("actor"), 1)

    def test_first_row(self):
        for row in (" channels", "channels ", "Channels", "channel", "channels  0>1", "channels\t0>1", "channels 0>1 ",
                    "channels 0>0", "channels 3>3", "channels 0>4", "channels 4>0", "channels -1>0", "channels 0>-1",
                    "channels 00>1", "channels 0>01", "channels 0 1", "channels 0> 1", "channels 0>", "channels >1",
                    "channels >", "channels 0<1", "channels 0>1>2", "channels 0>1,1>0", "channels 0>1 x", "channels a>b",
                    "channels 0>1\t", "channels 10>1", "channels (0, 1)", "channels" + " 0>1" * 7,
                    "channels 0>1 0>1 0>1 0>1 0>1 0>1 9", "0>1", "actor", "tell a", "channels channels"):
            for rest in ("", "\nactor\nactor\nactor\nactor", "\nactor\nx"):
                self.assertEqual(row_of(row + rest), 1, row)

    def test_channels_of_an_actor_that_does_not_come(self):
        self.assertEqual(row_of("channels 0>1\nactor"), 3)
        self.assertEqual(row_of("channels 0>3\nactor\nactor\nactor"), 5)
        self.assertEqual(row_of("channels 3>0\nactor\ntell a\nsend 0 G\nactor"), 4)
        self.assertEqual(row_of("channels 0>3\nactor\ntell a\nsend 0 G\nactor"), 6)
        self.assertEqual(row_of("channels 1>2\nactor\nactor\nsend 0 G"), 5)
        self.assertIsNone(row_of("channels 1>2\nactor\nactor\nsend 0 G\nactor"))

    def test_fifth_actor(self):
        self.assertIsNone(row_of("channels" + "\nactor" * 4))
        self.assertEqual(row_of("channels" + "\nactor" * 5), 6)
        self.assertEqual(row_of("channels" + "\nactor\ntell a" * 5), 10)
        self.assertEqual(row_of("channels" + "\nactor" * 5 + "\nx"), 6)

    def test_rows_that_are_none(self):
        for row in WRONG_ROWS:
            text = text_of("channels 0>1 1>0 2>3", "actor", "tell a", row, "tell a", "actor", "actor", "actor")
            self.assertEqual(row_of(text), 4, row)
            self.assertTrue(is_row_by_hand(text, 4), row)
            if row.strip() and row[0] != " ":
                text = text_of("channels 0>1 1>0 2>3", "actor", "while a", "  tell a", "  " + row, "actor", "actor", "actor")
                self.assertEqual(row_of(text), 5, row)

    def test_send_and_take_of_another_actor(self):
        begin = ["channels 0>1 1>2", "actor"]
        for actor, sent, taken in ((0, 0, None), (1, 1, 0), (2, None, 1)):
            rows = begin + ["actor"] * actor
            for m in range(-1, 4):
                behind = ["actor"] * (2 - actor)
                wanted = len(rows) + 1
                self.assertEqual(row_of(text_of(*rows, f"send {m} G", *behind)), None if m == sent else wanted)
                self.assertEqual(row_of(text_of(*rows, f"take G {m}", *behind)), None if m == taken else wanted)

    def test_thirteenth_statement_of_a_block(self):
        self.assertIsNone(row_of(text_of("channels", "actor", *["tell a"] * 12)))
        self.assertEqual(row_of(text_of("channels", "actor", *["tell a"] * 13)), 15)
        self.assertEqual(row_of(text_of("channels", "actor", *["while a", "  tell a"] * 6, *["tell a"] * 6)), None)
        self.assertEqual(row_of(text_of("channels", "actor", *["while a", "  tell a"] * 6, *["tell a"] * 7)), 21)
        self.assertEqual(row_of(text_of("channels", "actor", "while a", *["  tell a"] * 13)), 16)
        self.assertEqual(row_of(text_of("channels", "actor", "if a", *["  tell a"] * 13)), 16)
        self.assertEqual(row_of(text_of("channels", "actor", "if a", *["  tell a"] * 12, "else")), None)
        self.assertEqual(row_of(text_of("channels", "actor", "if a", *["  tell a"] * 12, "else", *["  tell a"] * 12)), None)
        self.assertEqual(row_of(text_of("channels", "actor", "if a", *["  tell a"] * 12, "else", *["  tell a"] * 13)), 29)
        self.assertEqual(row_of(text_of("channels", "actor", *["tell a"] * 12, "if a", "else")), 15)
        self.assertEqual(row_of(text_of("channels", "actor", *["tell a"] * 12, "while a")), 15)

    def test_forty_first_statement(self):
        forty = (["while a"] + ["  tell a"] * 12) * 3 + ["tell a"]
        self.assertIsNone(row_of(text_of("channels", "actor", *forty)))
        self.assertEqual(row_of(text_of("channels", "actor", *forty, "tell a")), 43)
        self.assertEqual(row_of(text_of("channels", "actor", *forty, "while a")), 43)
        self.assertEqual(row_of(text_of("channels", "actor", *forty, "if a")), 43)
        self.assertEqual(row_of(text_of("channels", "actor", *forty, "actor", *forty, "tell a")), 84)
        branch = ["if a"] + ["  tell a"] * 12 + ["else"] + ["  tell a"] * 12
        self.assertIsNone(row_of(text_of("channels", "actor", *branch, "while a", *["  tell a"] * 12, "tell a", "tell a")))
        self.assertEqual(
            row_of(text_of("channels", "actor", *branch, "while a", *["  tell a"] * 12, *["tell a"] * 3)), 44)

    def test_branches_in_a_fourth_block(self):
        begin = ["channels", "actor", "while a", "  while a", "    while a"]
        self.assertIsNone(row_of(text_of(*begin)))
        self.assertIsNone(row_of(text_of(*begin, "      tell a")))
        for row in ("while a", "if a"):
            self.assertEqual(row_of(text_of(*begin, "      " + row)), 6)
            self.assertEqual(row_of(text_of(*begin, "      tell a", "      " + row)), 7)
            self.assertEqual(row_of(text_of(*begin, "        tell a")), 6)
        begin = ["channels", "actor", "if a", "else", "  if a", "  else", "    if a", "    else"]
        self.assertIsNone(row_of(text_of(*begin, "      tell a")))
        self.assertEqual(row_of(text_of(*begin, "      if a")), 9)
        self.assertEqual(row_of(text_of(*begin, "      while a")), 9)

    def test_else_that_lacks(self):
        self.assertEqual(row_of("channels\nactor\nif a"), 4)
        self.assertEqual(row_of("channels\nactor\nif a\n  tell a"), 5)
        self.assertEqual(row_of("channels\nactor\nif a\n  tell a\ntell a"), 5)
        self.assertEqual(row_of("channels\nactor\nif a\nactor"), 4)
        self.assertEqual(row_of("channels\nactor\nif a\n  if b\nelse"), 5)
        self.assertEqual(row_of("channels\nactor\nif a\n  if b\n  else"), 6)
        self.assertEqual(row_of("channels\nactor\nwhile a\n  if b\ntell a"), 5)
        self.assertEqual(row_of("channels\nactor\nif a\ntell a\nelse"), 4)

    def test_else_that_comes_twice_or_alone(self):
        self.assertEqual(row_of("channels\nactor\nif a\nelse\nelse"), 5)
        self.assertEqual(row_of("channels\nactor\nif a\nelse\n  tell a\nelse"), 6)
        self.assertEqual(row_of("channels\nactor\nelse"), 3)
        self.assertEqual(row_of("channels\nactor\nwhile a\nelse"), 4)
        self.assertEqual(row_of("channels\nactor\nwhile a\n  tell a\nelse"), 5)
        self.assertEqual(row_of("channels\nactor\nif a\nelse\ntell a\nelse"), 6)
        self.assertEqual(row_of("channels\nelse"), 2)

    def test_else_elsewhere(self):
        self.assertEqual(row_of("channels\nactor\nif a\n  else"), 4)
        self.assertEqual(row_of("channels\nactor\nif a\n else"), 4)
        self.assertEqual(row_of("channels\nactor\nif a\nelse "), 4)
        self.assertEqual(row_of("channels\nactor\nwhile a\n  if a\nelse"), 5)
        self.assertIsNone(row_of("channels\nactor\nif a\n  while a\n    tell a\nelse"))
        self.assertIsNone(row_of("channels\nactor\nif a\n  if b\n  else\n    tell a\nelse"))

    def test_blanks_ahead(self):
        for blanks in (1, 2, 3, 4, 5, 6, 8):
            self.assertEqual(row_of("channels\nactor\n" + " " * blanks + "tell a"), 3)
            wanted = None if blanks == 2 else 4
            self.assertEqual(row_of("channels\nactor\nwhile a\n" + " " * blanks + "tell a"), wanted)
            wanted = None if blanks in (2, 4) else 5
            self.assertEqual(row_of("channels\nactor\nwhile a\n  while a\n" + " " * blanks + "tell a"), wanted)

    def test_first_of_several(self):
        self.assertEqual(row_of("channels 0>1\nactor\nx\ny"), 3)
        self.assertEqual(row_of("channels 0>9\nactor\nx"), 1)
        self.assertEqual(row_of("channels 0>3\nactor\nif a\nx"), 4)


class TestChanged(unittest.TestCase):
    """Texts of drawn nets with a change, beside the row that is found by hand."""

    def assert_as_by_hand(self, text):
        row = row_of(text)
        self.assertTrue(is_row_by_hand(text, row), (row, text))
        if row is None:
            self.assertEqual(net_text(read_net(text)), text)
        return row

    def test_rows_cut_off(self):
        seen = set()
        for seed in range(25):
            rows = net_text(Draw(seed).net(longest=7, deepest=3)).split("\n")
            for many in range(len(rows)):
                wanted = self.assert_as_by_hand("\n".join(rows[:many]))
                self.assertIn(wanted, (None, many + 1) if many else (1,))
                seen.add(wanted is None)
                self.assert_as_by_hand("\n".join(rows[many:]))
        self.assertEqual(seen, {True, False})

    def test_rows_twice_out_or_exchanged(self):
        for seed in range(40):
            draw = Draw(seed)
            rows = net_text(draw.net(longest=7, deepest=3)).split("\n")
            for at in range(len(rows)):
                self.assert_as_by_hand("\n".join(rows[:at] + rows[at:at + 1] + rows[at:]))
                self.assert_as_by_hand("\n".join(rows[:at] + rows[at + 1:]))
                other = draw.many(0, len(rows) - 1)
                turned = list(rows)
                turned[at], turned[other] = turned[other], turned[at]
                self.assert_as_by_hand("\n".join(turned))

    def test_rows_from_elsewhere(self):
        for seed in range(40):
            draw = Draw(seed)
            rows = net_text(draw.net(longest=7, deepest=3)).split("\n")
            others = net_text(Draw(seed + 1_000).net(deepest=3)).split("\n")
            for at in range(len(rows)):
                row = draw.one(others + ["else", "  else", "actor", "if a", "  if a", "while a", "    if a", "      while a"])
                self.assert_as_by_hand("\n".join(rows[:at] + [row] + rows[at:]))
                self.assert_as_by_hand("\n".join(rows[:at] + [row] + rows[at + 1:]))

    def test_blanks_too_many_or_too_few(self):
        for seed in range(12):
            rows = net_text(Draw(seed).net(longest=7, deepest=3)).split("\n")
            for at, row in enumerate(rows):
                changed = [" " + row, "  " + row, row + " ", row.replace(" ", "  ", 1), row.replace(" ", "", 1), row[2:]]
                changed += [row.replace(" ", "\t", 1), row + "\t"]
                for other in changed:
                    self.assert_as_by_hand("\n".join(rows[:at] + [other] + rows[at + 1:]))

    def test_signs_put_in_left_out_or_otherwise(self):
        for seed in range(12):
            draw = Draw(seed)
            text = net_text(draw.net(longest=5, deepest=3))
            for at in range(0, len(text), 3):
                sign = draw.one(" \n0123-+*<=>~abGH\t")
                self.assert_as_by_hand(text[:at] + sign + text[at:])
                self.assert_as_by_hand(text[:at] + text[at + 1:])
                self.assert_as_by_hand(text[:at] + sign + text[at + 1:])


if __name__ == "__main__":
    unittest.main()
