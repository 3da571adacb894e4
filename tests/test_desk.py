"""Points 29 and 30: a desk, its lines and answers."""

import unittest

from giveway.desk import Desk
from giveway.errors import (
    GiveError, NoActor, NoAddress, NoChannel, NoDeed, NoLine, NoName, NoNet, NoRow, NotStill, NoWeaving,
)
from giveway.machine import Machine
from giveway.moves import paper_of
from giveway.nets import is_net
from giveway.texts import graph_text
from giveway.waits import knot
from tests.drawn import Draw
from tests.things import ANYTHING, spoiled

NET = (
    ((0, 1), (1, 0)),
    (
        (("add", "G", "a"), ("hang", "G", "z", 1, "H"), ("send", 0, "G"), ("show", "G"), ("tell", "a"), ("take", "K", 1)),
        (("take", "X", 0), ("pick", "X", "X", "z", 1), ("show", "X"), ("take", "X", 0)),
        (),
    ),
)

# A line of each form.
FORMS = (
    "step 0", "weave 0", "weave 0 1 2", "try 0", "try 0 1 2", "back", "collect 0", "at 0", "told 0", "name 0 G",
    "channel 0", "heap 0", "copied", "steps", "code 0", "why 0 1", "keeps 0 0.0", "who",
)
NO_LINES = (
    "", " ", "  ", "\n", "\t", "a", "0", "none", "STEP 0", "Step 0", "stepp 0", "ste 0", "step0", "step,0", "step: 0", "step -",
    "step +0", "step 00", "step 01", "step -0", "step -01", "step 0x0", "step 1.0", "step 1_0", "step a", "step G", "step ~0",
    "step None", "step True", "step\t0", "step\n0", "step 0\n", "step 0\t", "\tstep 0", "keeps 0 0", "keeps 0 0.", "keeps 0 .0",
    "keeps 0 .", "keeps 0 0.0.0", "keeps 0 0,0", "keeps 0 0.00", "keeps 0 00.0", "keeps 0 -0.0", "keeps 0 0.-0", "keeps 0 a.0",
    "keeps 0 0.a", "keeps 0 (0,0)", "keeps 0 0 0", "keeps 0.0", "keeps 0.0 0", "why 0 a", "why a 0", "why 0 G", "why 0 1.0",
    "name a G", "name G 0", "name 0 ", "name  G", "weave", "weave ", "weave a", "weave 0 a", "weave 0,1", "weave 0 1 a 2",
    "weave [0]", "weave 0 00", "try", "try ", "try 0 a", "back 0", "back back", "copied 0", "steps 0", "who 0", "steps of 0",
    "steps\n", "who\t", "[0 0 0]", "channels", "actor", "show G", "trial 0", "holds 0 G", "address 0 G", "boxes 0.0", "owner 0.0",
    "apart", "is_still", "knot", "quit", "help", "a" * 8_000, " " * 8_000, "step " + "0" * 7_990, "step " + "9" * 7_990,
    "weave" + " 0" * 3_990 + " a",
)


def said(net, *lines):
    """The answers of a desk to lines."""
    desk = Desk(net)
    return [desk.say(line) for line in lines]


def alone(*statements):
    return ((), (tuple(statements),))


def all_said(desk, net):
    """All that a desk tells by lines that change nothing; refusals as their kinds."""
    lines = ["copied", "steps", "who", "try " + " ".join(str(n % len(net[1])) for n in range(12))]
    for actor in range(len(net[1])):
        lines += [f"{word} {actor}" for word in ("at", "told", "heap", "code")]
        lines += [f"name {actor} {name}" for name in ("a", "z", "G", "H", "K", "X")]
        lines += [f"why {actor} {row}" for row in range(8)]
        lines += [f"keeps {actor} {maker}.{n}" for maker in range(len(net[1])) for n in range(4)]
    lines += [f"channel {m}" for m in range(len(net[0]))]
    return [told_or_kind(desk, line) for line in lines]


def told_or_kind(desk, line):
    try:
        return desk.say(line)
    except GiveError as refused:
        return type(refused)


class TestLines(unittest.TestCase):
    def test_step(self):
        self.assertEqual(said(NET, "step 0", "step 1", "step 2", "at 0", "at 1"), ["yes", "no", "no", "1", "0 waits 0"])

    def test_step_to_the_end(self):
        self.assertEqual(said(alone(("tell", "a")), "step 0", "step 0", "at 0"), ["yes", "no", "-1"])

    def test_weave(self):
        self.assertEqual(said(NET, "weave 0", "weave 2", "weave 1 0 2 0 1", "steps"), ["1", "0", "3", "4"])
        self.assertEqual(said(NET, "weave" + " 0" * 400, "steps"), ["5", "5"])
        net = alone(("num", "a", 1), ("while", "a", ()))
        self.assertEqual(said(net, "weave" + " 0" * 400, "weave 0", "steps"), ["400", "1", "401"])

    def test_try(self):
        lines = ("try 0", "try 2", "try 0 0 0 1 1 1", "steps", "at 0", "copied", "heap 1")
        self.assertEqual(said(NET, *lines), ["1", "0", "6", "0", "0", "0", "1.0"])
        self.assertEqual(said(NET, "try" + " 0" * 400), ["5"])

    def test_back(self):
        desk = Desk(NET)
        self.assertRaises(NoDeed, desk.say, "back")
        ahead = all_said(desk, NET)
        stood = [ahead]
        for line in ("step 0", "step 0", "collect 1", "step 0", "step 1", "collect 0", "step 1"):
            self.assertNotEqual(desk.say(line), "no")
            stood.append(all_said(desk, NET))
        desk.say("try 0 0 0")
        desk.say("step 2")
        while len(stood) > 1:
            self.assertEqual(all_said(desk, NET), stood.pop())
            self.assertEqual(desk.say("back"), "ok")
        self.assertEqual(all_said(desk, NET), ahead)
        self.assertRaises(NoDeed, desk.say, "back")
        self.assertEqual(all_said(desk, NET), ahead)

    def test_back_by_each_step_of_a_weaving(self):
        self.assertEqual(said(NET, "weave 0 1 0", "back", "at 0", "back", "at 0"), ["2", "ok", "1", "ok", "0"])

    def test_collect(self):
        self.assertEqual(said(NET, "collect 0", "collect 2"), ["none", "none"])
        net = alone(("new", "G"), ("new", "G"), ("show", "G"))
        self.assertEqual(said(net, "weave 0 0", "collect 0", "collect 0", "heap 0"), ["2", "0.0 0.1", "none", "0.2"])

    def test_at(self):
        self.assertEqual(said(NET, "at 0", "at 1", "at 2"), ["0", "0 waits 0", "-1"])
        self.assertEqual(said(NET, "weave 0 0 0", "at 1", "weave 0 0", "at 0"), ["3", "0", "2", "5 waits 1"])

    def test_told(self):
        self.assertEqual(said(NET, "told 0", "weave 0 0 0 0 0", "told 0"), ["none", "5", "[0 ([0 0 0]) 0][0 0 0] 1"])
        self.assertEqual(said(NET, "weave 0 0 0 1 1 1", "told 1", "told 2"), ["6", "[0 0 0]", "none"])
        net = alone(("num", "a", -7), ("tell", "a"), ("tell", "b"), ("show", "G"))
        self.assertEqual(said(net, "weave 0 0 0 0", "told 0"), ["4", "-7 0 [0 0 0]"])

    def test_name(self):
        self.assertEqual(said(NET, "name 0 G", "name 0 a", "name 0 Zzz", "name 2 zzz"), ["[0 0 0]", "0", "[0 0 0]", "0"])
        lines = ("weave 0 0", "name 0 G", "name 0 a", "name 0 H")
        self.assertEqual(said(NET, *lines), ["2", "[0 ([0 0 0]) 0][0 0 0]", "1", "empty"])
        self.assertEqual(said(alone(("num", "a", -9999)), "step 0", "name 0 a"), ["yes", "-9999"])

    def test_channel(self):
        self.assertEqual(said(NET, "channel 0", "channel 1"), ["none", "none"])
        net = (((0, 1),), ((("send", 0, "G"), ("add", "G", "a"), ("send", 0, "G")), (("take", "G", 0),)))
        lines = ("weave 0 0 0", "channel 0", "step 1", "channel 0")
        self.assertEqual(said(net, *lines), ["3", "[0 0 0] [0 0 0][0 0 0]", "yes", "[0 0 0][0 0 0]"])

    def test_heap(self):
        self.assertEqual(said(NET, "heap 0", "heap 1", "heap 2"), ["0.0 0.1 0.2", "1.0", "none"])
        self.assertEqual(said(NET, "weave 0 0 0", "heap 0", "heap 1"), ["3", "0.0 0.1 0.2", "0.3 0.4 1.0"])

    def test_addresses_rise_by_numbers(self):
        net = alone(*[("new", "G")] * 12)
        self.assertEqual(said(net, "weave" + " 0" * 12, "heap 0")[1], " ".join(f"0.{n}" for n in range(13)))

    def test_copied_and_steps(self):
        self.assertEqual(said(NET, "copied", "steps", "weave 0 0 0", "copied", "steps"), ["0", "0", "3", "3", "3"])

    def test_code(self):
        self.assertEqual(said(NET, "code 2"), ["none"])
        self.assertEqual(said(NET, "code 0")[0], (
            "0:add,G,a>1 1:hang,G,z,1,H,give>2 2:send,0,G,copy>3 3:show,G>4 4:tell,a>5 5:take,K,1>-1"))
        self.assertEqual(said(NET, "code 1")[0], "0:take,X,0>1 1:pick,X,X,z,1,give>2 2:show,X>3 3:take,X,0>-1")
        net = alone(("num", "a", -5), ("while", "a", (("sum", "a", "a", "<", "b"),)), ("if", "b", (), (("let", "G", "H"),)))
        self.assertEqual(said(net, "code 0")[0], (
            "0:num,a,-5>1 1:test,a>2,3 2:sum,a,a,<,b>1 3:test,b>-1,4 4:let,G,H,give>-1"))

    def test_code_is_the_same_behind_steps(self):
        desk = Desk(NET)
        ahead = desk.say("code 0")
        desk.say("weave 0 0 0 1 1")
        self.assertEqual(desk.say("code 0"), ahead)

    def test_why(self):
        self.assertEqual(said(NET, "why 0 1", "why 0 2", "why 1 1"), ["bar 2 3 4 5", "way 3", "bar"])
        net = alone(("let", "G", "H"), ("tell", "a"), ("show", "H"))
        self.assertEqual(said(net, "why 0 0"), ["way 1 2"])
        self.assertEqual(said(alone(("let", "G", "H")), "why 0 0"), ["bar"])

    def test_keeps(self):
        desk = Desk(NET)
        self.assertEqual(desk.say("keeps 0 0.0"), "way 0.0")
        desk.say("weave 0 0 0")
        self.assertEqual(desk.say("keeps 0 0.1"), "way 0.0 0.1")
        self.assertEqual(desk.say("keeps 1 0.4"), "way 0.3 0.4")
        desk.say("weave 1 1")
        self.assertEqual(desk.say("keeps 1 0.4"), "way 0.4")
        self.assertEqual(desk.say("keeps 1 0.3"), "bar 0.4")
        self.assertEqual(desk.say("keeps 1 1.0"), "bar 0.4")

    def test_keeps_with_an_empty_bar(self):
        net = (((0, 1),), ((("new", "G"), ("send", 0, "G")), ()))
        self.assertEqual(said(net, "weave 0 0", "keeps 0 0.0"), ["2", "bar"])

    def test_who(self):
        self.assertEqual(said(NET, "who"), ["moving"])
        self.assertEqual(said(NET, "weave 0 0 0 0 0 1 1 1", "who"), ["8", "knot 0 1"])
        takes = (((0, 1), (1, 2), (2, 3)), ((), (("take", "G", 0),), (("take", "G", 1),), (("take", "G", 2),)))
        self.assertEqual(said(takes, "who"), ["open 1>0 2>0 3>0"])
        self.assertEqual(said(alone(), "who"), ["open"])
        ring = (((1, 0), (2, 1), (0, 2)), ((("take", "G", 0),), (("take", "G", 1),), (("take", "G", 2),)))
        self.assertEqual(said(ring, "who"), ["knot 0 1 2"])

    def test_names_of_arguments(self):
        self.assertEqual(Desk(net=NET).say(line="step 0"), "yes")
        self.assertEqual(Desk(net=NET).say("step 0"), "yes")


class TestNoLine(unittest.TestCase):
    def setUp(self):
        self.desks = (Desk(), Desk(None), Desk(net=None), Desk(NET))

    def assert_no_line(self, line):
        for desk in self.desks:
            self.assertRaises(NoLine, desk.say, line)

    def test_no_lines(self):
        for line in NO_LINES:
            self.assert_no_line(line)

    def test_no_text(self):
        for thing in ANYTHING + (["step", 0], ("step 0",), ["step 0"], {"step 0": 0}):
            self.assert_no_line(thing)

    def test_a_word_too_many_or_too_few(self):
        for line in FORMS:
            words = line.split(" ")
            if words[0] in ("weave", "try"):
                self.assert_no_line(words[0])
                self.assert_no_line(line + " x")
                continue
            self.assert_no_line(line + " 0")
            self.assert_no_line(line + " G")
            if len(words) > 1:
                self.assert_no_line(" ".join(words[:-1]))
                self.assert_no_line(" ".join(words[1:]))
                self.assert_no_line(words[0])

    def test_an_odd_word_in_each_place(self):
        for line in FORMS:
            words = line.split(" ")
            for k in range(len(words)):
                if words[0] == "name" and k == 2:
                    continue
                for odd in ("", "?", "none", "0.0.0", "--1", "1-", "+1", "007", "\t", "0\t", "\n0", "A", "K.N", "steps0", "0 0 0 0 a"):
                    self.assert_no_line(" ".join(words[:k] + [odd] + words[k + 1:]))

    def test_blanks(self):
        for line in FORMS:
            self.assert_no_line(" " + line)
            self.assert_no_line(line + " ")
            self.assert_no_line(line + "  ")
            self.assert_no_line("\n" + line)
            if " " in line:
                self.assert_no_line(line.replace(" ", "  ", 1))
                self.assert_no_line(line.replace(" ", "\t", 1))
                self.assert_no_line(line.replace(" ", "", 1))
                self.assert_no_line("  ".join(line.rsplit(" ", 1)))

    def test_thirty_signs_and_one_more(self):
        desk = Desk(NET)
        for most in ("9" * 30, "1" + "0" * 29, "-" + "9" * 29):
            lines = (
                ("step", NoActor), ("weave 0", NoWeaving), ("try 0", NoActor), ("collect", NoActor), ("at", NoActor),
                ("told", NoActor), ("channel", NoChannel), ("heap", NoActor), ("code", NoActor), ("why 0", NoRow),
            )
            for begin, error in lines:
                self.assertRaises(error, desk.say, f"{begin} {most}")
                self.assert_no_line(f"{begin} {most}0")
            for line in ("name {} G", "why {} 1", "keeps {} 0.0"):
                self.assertRaises(NoActor, desk.say, line.format(most))
                self.assert_no_line(line.format(most + "0"))
            for line in ("keeps 0 {}.0", "keeps 0 0.{}", "keeps 0 {0}.{0}"):
                self.assertRaises(NoAddress, desk.say, line.format(most))
                self.assert_no_line(line.format(most + "0"))

    def test_any_word_is_a_name(self):
        desk = Desk(NET)
        for word in ("?", "0", "-1", "A1", "aB", "abcdefg", "Abcdefg", "[0", "step", "~", "(", "a.b", "a" * 7_990, "a,b", "a\tb", "G\t", "\n"):
            if word == "step":
                self.assertEqual(desk.say(f"name 0 {word}"), "0")
            else:
                self.assertRaises(NoName, desk.say, f"name 0 {word}")
            self.assertRaises(NoActor, desk.say, f"name 9 {word}")
            self.assertRaises(NoNet, Desk().say, f"name 0 {word}")

    def test_ahead_of_all_else(self):
        desk = Desk(NET)
        for line in ("step 9 x", "why 9", "keeps 9 x", "name 9", "weave 9 x", "weave" + " 0" * 401 + " x", "back x"):
            self.assertRaises(NoLine, desk.say, line)
            self.assertRaises(NoLine, Desk().say, line)


class TestRefusals(unittest.TestCase):
    def test_without_a_net(self):
        for desk in (Desk(), Desk(None)):
            for line in FORMS + ("step 9", "step -1", "weave" + " 0" * 401, "name 0 ?", "keeps 9 9.9", "why 9 9", "channel 9"):
                for _ in range(2):
                    self.assertRaises(NoNet, desk.say, line)

    def test_no_net(self):
        right = (((0, 1),), ((("send", 0, "G"),), ()))
        for thing in ANYTHING + tuple(spoiled(right)) + ("channels\nactor", [], ()):
            if thing is not None and not is_net(thing):
                self.assertRaises(NoNet, Desk, thing)
                self.assertRaises(NoNet, Desk, net=thing)

    def test_each_refusal_of_the_stages(self):
        wanted = (
            ("step 3", NoActor), ("step -1", NoActor), ("weave 3", NoWeaving), ("weave 0 0 3", NoWeaving),
            ("weave 0 -1 0", NoWeaving), ("weave" + " 0" * 401, NoWeaving), ("try 3", NoActor), ("try 0 0 3", NoActor),
            ("try" + " 0" * 401, NoWeaving), ("try" + " 3" * 401, NoWeaving), ("back", NoDeed), ("collect 3", NoActor),
            ("at 3", NoActor), ("told 3", NoActor), ("name 3 G", NoActor), ("name 3 ?", NoActor), ("name 0 ?", NoName),
            ("channel 2", NoChannel), ("channel -1", NoChannel), ("heap 3", NoActor), ("code 3", NoActor), ("code -1", NoActor),
            ("why 3 1", NoActor), ("why 3 9", NoActor), ("why -1 1", NoActor), ("why 0 0", NoRow), ("why 0 6", NoRow),
            ("why 0 -1", NoRow), ("why 2 0", NoRow), ("keeps 3 0.0", NoActor), ("keeps 3 9.9", NoActor),
            ("keeps 0 1.0", NoAddress), ("keeps 1 0.0", NoAddress), ("keeps 0 0.3", NoAddress), ("keeps 0 -1.0", NoAddress),
            ("keeps 0 0.-1", NoAddress), ("keeps 2 0.0", NoAddress),
        )
        desk = Desk(NET)
        ahead = all_said(desk, NET)
        for line, error in wanted:
            self.assertRaises(error, desk.say, line)
            self.assertEqual(all_said(desk, NET), ahead, line)
        desk.say("weave 0 0 0 1")
        ahead = all_said(desk, NET)
        for line, error in wanted:
            if line not in ("back", "keeps 1 0.0", "keeps 0 0.3"):
                self.assertRaises(error, desk.say, line)
                self.assertEqual(all_said(desk, NET), ahead, line)

    def test_a_net_without_channels(self):
        self.assertRaises(NoChannel, Desk(alone()).say, "channel 0")

    def test_who_is_never_refused(self):
        desk = Desk(NET)
        machine = Machine(NET)
        self.assertRaises(NotStill, knot, machine)
        self.assertEqual(desk.say("who"), "moving")

    def test_a_try_changes_nothing(self):
        desk = Desk(NET)
        for line in ("step 0", "weave 0 0 1", "collect 1"):
            desk.say(line)
            ahead = all_said(desk, NET)
            desk.say("try 0 0 0 1 1 1 1 2 0 0 0")
            self.assertEqual(all_said(desk, NET), ahead)
            self.assertRaises(NoActor, desk.say, "try 0 1 0 1 9")
            self.assertEqual(all_said(desk, NET), ahead)

    def test_refused_weaving_does_no_step(self):
        desk = Desk(NET)
        self.assertRaises(NoWeaving, desk.say, "weave 0 0 0 3")
        self.assertEqual((desk.say("steps"), desk.say("at 0")), ("0", "0"))


class TestDesks(unittest.TestCase):
    def test_two_have_nothing_in_common(self):
        one, other, fresh = Desk(NET), Desk(NET), Desk(NET)
        ahead = all_said(fresh, NET)
        one.say("weave 0 0 0")
        self.assertEqual(all_said(other, NET), ahead)
        behind = all_said(one, NET)
        other.say("step 0")
        other.say("collect 1")
        self.assertEqual(all_said(one, NET), behind)
        one.say("back")
        other.say("back")
        other.say("back")
        self.assertEqual(all_said(other, NET), ahead)
        self.assertRaises(NoDeed, other.say, "back")
        self.assertEqual(one.say("steps"), "2")

    def test_lines_in_turn(self):
        one, other = Desk(NET), Desk(NET)
        for line in ("step 0", "step 0", "step 0", "collect 0", "step 1", "told 1", "back", "heap 1", "weave 0 1 0 1", "who"):
            self.assertEqual(one.say(line), other.say(line))
            self.assertEqual(all_said(one, NET), all_said(other, NET))

    def test_asked_again(self):
        desk = Desk(NET)
        desk.say("weave 0 0 0 1 1")
        self.assertEqual(all_said(desk, NET), all_said(desk, NET))

    def test_with_and_without_a_net(self):
        self.assertRaises(NoNet, Desk().say, "step 0")
        self.assertEqual(Desk(NET).say("step 0"), "yes")
        self.assertRaises(NoNet, Desk().say, "step 0")


class ByHand:
    """What a desk says, told of a machine beside it."""

    def __init__(self, net):
        self.machine = Machine(net)
        self.net = net

    def say(self, line):
        word, *rest = line.split(" ")
        if word in ("weave", "try"):
            return str(len(getattr(self.machine, {"weave": "weave", "try": "trial"}[word])([int(a) for a in rest])))
        return getattr(self, word)(*rest)

    def worths(self, worths):
        return " ".join(str(worth) if isinstance(worth, int) else graph_text(worth) for worth in worths) or "none"

    def addresses(self, addresses):
        return " ".join("%d.%d" % address for address in addresses) or "none"

    def step(self, a):
        return {True: "yes", False: "no"}[self.machine.step(int(a))]

    def back(self):
        self.machine.back()
        return "ok"

    def collect(self, a):
        return self.addresses(self.machine.collect(int(a)))

    def at(self, a):
        waits = self.machine.waits(int(a))
        return str(self.machine.at(int(a))) + ("" if waits is None else " waits " + str(waits))

    def told(self, a):
        return self.worths(self.machine.told(int(a)))

    def name(self, a, name):
        worth = self.machine.holds(int(a), name)
        return "empty" if worth is None else self.worths([worth])

    def channel(self, m):
        return self.worths(self.machine.channel(int(m)))

    def heap(self, a):
        return self.addresses(self.machine.heap(int(a)))

    def copied(self):
        return str(self.machine.copied())

    def steps(self):
        return str(self.machine.steps())

    def code(self, a):
        rows = self.machine.code[int(a)] if int(a) >= 0 else self.machine.at(int(a))
        told = ""
        for number, (deed, nexts) in enumerate(rows):
            told += " " + str(number) + ":" + ",".join(map(str, deed)) + ">" + ",".join(map(str, nexts))
        return told[1:] or "none"

    def why(self, a, p):
        word, points = paper_of(self.machine.code[int(a)], int(p))
        return " ".join([word, *map(str, points)])

    def keeps(self, a, address):
        maker, n = address.split(".")
        word, points = self.machine.paper(int(a), (int(maker), int(n)))
        heap = self.machine.heap(int(a))
        return " ".join([word] + [self.addresses([heap[point]]) for point in points])

    def who(self):
        if not self.machine.is_still():
            return "moving"
        word, found = knot(self.machine)
        return " ".join([word] + [str(part) if isinstance(part, int) else "%d>%d" % part for part in found])


class TestDrawn(unittest.TestCase):
    def line(self, draw, net):
        many = len(net[1])
        a = draw.many(0, many - 1)
        turns = " ".join(str(turn) for turn in draw.weaving(net, draw.many(1, 9)))
        return draw.one((
            f"step {a}", f"step {a}", f"weave {turns}", f"weave {turns}", f"try {turns}", "back", f"collect {a}", f"at {a}",
            f"told {a}", f"name {a} {draw.one(('a', 'b', 'G', 'H', 'K', 'Z', '?'))}", f"channel {draw.many(0, 4)}", f"heap {a}",
            "copied", "steps", f"code {a}", f"why {a} {draw.many(0, 9)}", f"keeps {a} {draw.many(0, many - 1)}.{draw.many(0, 9)}",
            "who",
        ))

    def test_beside_a_machine(self):
        for seed in range(120):
            draw = Draw(seed)
            net = draw.net()
            desk, machine = Desk(net), ByHand(net)
            for _ in range(60):
                line = self.line(draw, net)
                self.assertEqual(told_or_kind(desk, line), told_or_kind(machine, line), (seed, line))

    def test_two_desks_in_turn(self):
        for seed in range(30):
            draw = Draw(seed)
            net = draw.net()
            one, other = Desk(net), Desk(net)
            lines = [[self.line(draw, net) for _ in range(30)] for _ in range(2)]
            wanted = []
            for row in lines:
                desk = Desk(net)
                wanted.append([told_or_kind(desk, line) for line in row])
            told = [[], []]
            for first, second in zip(*lines):
                told[0].append(told_or_kind(one, first))
                told[1].append(told_or_kind(other, second))
            self.assertEqual(told, wanted)

    def test_answers_are_texts(self):
        for seed in range(20):
            draw = Draw(seed)
            net = draw.net()
            desk = Desk(net)
            for _ in range(40):
                told = told_or_kind(desk, self.line(draw, net))
                if isinstance(told, str):
                    self.assertRegex(told, r"\A[!-~]+( [!-~]+)*\Z")


if __name__ == "__main__":
    unittest.main()
