"""Points 8 and 9."""

import copy
import unittest

from giveway.errors import NoNet
from giveway.nets import check_net, is_net
from tests.things import ANYTHING, GREAT, NEVER, spoiled

TELL = ("tell", "a")

# Each statement without blocks, of actor 0 of CHANNELS.
CHANNELS = ((0, 1), (1, 0))
DEEDS = (
    ("num", "a", 5),
    ("sum", "a", "b", "+", "c"),
    ("new", "G"),
    ("let", "G", "H"),
    ("add", "G", "a"),
    ("put", "G", "b", 0, "c"),
    ("tie", "G", "b", 1, "c"),
    ("hang", "G", "b", 2, "H"),
    ("get", "a", "G", "b", 0),
    ("sort", "a", "G", "b", 1),
    ("pick", "G", "H", "b", 2),
    ("send", 0, "G"),
    ("take", "G", 1),
    ("tell", "a"),
    ("show", "G"),
)
BRANCHES = (
    ("if", "a", (TELL,), (("show", "G"),)),
    ("while", "a", (TELL,)),
)

NUMBER_NAMES = ("a", "z", "if", "tell", "abcdef", "zzzzzz")
NO_NUMBER_NAMES = ("", "abcdefg", "A", "Ab", "aB", "a1", "a b", "a ", " a", "a\n", "_", "`", "{", "abc-de", "a" * 8000)
GRAPH_NAMES = ("A", "Z", "Ab", "Gabcde", "Zzzzzz")
NO_GRAPH_NAMES = ("", "Gabcdef", "a", "ab", "AB", "AbC", "A1", "A b", "A ", " A", "A\n", "_", "@", "[", "A" + "a" * 7999)


def net_of(*statements):
    return (CHANNELS, (tuple(statements), ()))


def stands(statement):
    return is_net(net_of(statement))


def changed(statement, k, part):
    return statement[:k] + (part,) + statement[k + 1:]


def parts_with(value):
    """Each deed and place of a part in it that is this value's kind of name or number."""
    for deed in DEEDS:
        for k in range(1, len(deed)):
            if value(deed, k):
                yield deed, k


def is_number_name_part(deed, k):
    return isinstance(deed[k], str) and deed[k].islower()


def is_graph_name_part(deed, k):
    return isinstance(deed[k], str) and deed[k].isupper()


def is_place_part(deed, k):
    return isinstance(deed[k], int) and deed[0] not in ("num", "send", "take")


class TestStatements(unittest.TestCase):
    def test_each_stands(self):
        for statement in DEEDS + BRANCHES:
            self.assertIs(stands(statement), True, statement)
        self.assertIs(is_net(net_of(*DEEDS[:12])), True)

    def test_each_stands_within_blocks(self):
        for deed in DEEDS:
            self.assertIs(stands(("while", "a", (deed,))), True, deed)
            self.assertIs(stands(("if", "a", (deed,), ())), True, deed)
            self.assertIs(stands(("if", "a", (), (deed,))), True, deed)

    def test_each_part_wrong(self):
        for statement in DEEDS + BRANCHES:
            for thing in spoiled(statement):
                self.assertIs(stands(thing), False, thing)
                self.assertIs(stands(("while", "a", (thing,))), False, thing)
                self.assertIs(stands(("if", "a", (thing,), ())), False, thing)
                self.assertIs(stands(("if", "a", (), (thing,))), False, thing)

    def test_one_part_too_few_or_too_many(self):
        for statement in DEEDS + BRANCHES:
            self.assertIs(stands(statement[:-1]), False, statement)
            for more in ("a", "G", 0, (), "copy", "give", None):
                self.assertIs(stands(statement + (more,)), False, statement)

    def test_other_words(self):
        for word in ("", "test", "Num", "nums", "else", "actor", "num ", "at"):
            for statement in DEEDS + BRANCHES:
                self.assertIs(stands((word,) + statement[1:]), False, word)
        self.assertIs(stands(("test", "a")), False)
        self.assertIs(stands(()), False)
        self.assertIs(stands("tell"), False)
        for statement in DEEDS:
            self.assertIs(stands(([statement[0]],) + statement[1:]), False)

    def test_number_names(self):
        found = list(parts_with(is_number_name_part))
        self.assertEqual(len(found), 16)
        for deed, k in found:
            for name in NUMBER_NAMES:
                self.assertIs(stands(changed(deed, k, name)), True, name)
            for name in NO_NUMBER_NAMES + GRAPH_NAMES:
                self.assertIs(stands(changed(deed, k, name)), False, name)

    def test_names_of_branches(self):
        for statement in BRANCHES:
            for name in NUMBER_NAMES:
                self.assertIs(stands(changed(statement, 1, name)), True, name)
            for name in NO_NUMBER_NAMES + GRAPH_NAMES:
                self.assertIs(stands(changed(statement, 1, name)), False, name)

    def test_graph_names(self):
        found = list(parts_with(is_graph_name_part))
        self.assertEqual(len(found), 15)
        for deed, k in found:
            for name in GRAPH_NAMES:
                self.assertIs(stands(changed(deed, k, name)), True, name)
            for name in NO_GRAPH_NAMES + NUMBER_NAMES:
                self.assertIs(stands(changed(deed, k, name)), False, name)

    def test_places(self):
        found = list(parts_with(is_place_part))
        self.assertEqual(len(found), 6)
        for deed, k in found:
            for place in (0, 1, 2):
                self.assertIs(stands(changed(deed, k, place)), True, place)
            for place in (-1, 3, GREAT, "0", "k", (0,)):
                self.assertIs(stands(changed(deed, k, place)), False, place)

    def test_numbers(self):
        for number in (-9999, -1, 0, 1, 9999):
            self.assertIs(stands(("num", "a", number)), True, number)
        for number in (-10000, 10000, GREAT, -GREAT, True, False, "5", (5,)):
            self.assertIs(stands(("num", "a", number)), False, number)

    def test_signs(self):
        for sign in "+-*<=":
            self.assertIs(stands(("sum", "a", "a", sign, "a")), True, sign)
        for sign in ("", "/", ">", "==", "<=", "+-", "-*", "//", " +", "+ ", "a", 0, ["+"], ("+",), None):
            self.assertIs(stands(("sum", "a", "b", sign, "c")), False, sign)

    def test_unlike_names(self):
        self.assertIs(stands(("let", "G", "G")), False)
        self.assertIs(stands(("let", "G", "Ga")), True)
        self.assertIs(stands(("hang", "G", "b", 2, "G")), False)
        self.assertIs(stands(("hang", "G", "b", 2, "Ga")), True)
        self.assertIs(stands(("pick", "G", "G", "b", 2)), True)
        self.assertIs(stands(("sum", "a", "a", "+", "a")), True)
        self.assertIs(stands(("put", "G", "b", 0, "b")), True)
        self.assertIs(stands(("get", "b", "G", "b", 0)), True)


class TestBlocks(unittest.TestCase):
    def blocks(self, block):
        """The block in each place where one stands."""
        yield net_of(*block) if isinstance(block, tuple) else (CHANNELS, (block, ()))
        yield net_of(("while", "a", block))
        yield net_of(("if", "a", block, ()))
        yield net_of(("if", "a", (), block))

    def test_none_to_twelve(self):
        for many in (0, 1, 11, 12):
            for net in self.blocks((TELL,) * many):
                self.assertIs(is_net(net), True, many)
        for many in (13, 14, 40, 41):
            for net in self.blocks((TELL,) * many):
                self.assertIs(is_net(net), False, many)

    def test_no_blocks(self):
        for block in NEVER + (0, "tell", TELL, [TELL]):
            for net in self.blocks(block) if not isinstance(block, tuple) else list(self.blocks(block))[1:]:
                self.assertIs(is_net(net), False, block)
            self.assertIs(is_net((CHANNELS, ((), block))), False, block)

    def test_at_most_four_within_one_another(self):
        second = ("while", "a", ())
        third = ("if", "a", (second,), ())
        fourth = ("if", "a", (), (third,))
        self.assertIs(stands(second), True)
        self.assertIs(stands(third), True)
        self.assertIs(stands(fourth), True)
        for fifth in (("while", "a", (fourth,)), ("if", "a", (fourth,), ()), ("if", "a", (), (fourth,))):
            self.assertIs(stands(fifth), False)

    def test_a_fourth_block_holds_deeds_but_no_branch(self):
        def deep(block):
            return ("while", "a", (("while", "a", (("while", "a", block),)),))

        self.assertIs(stands(deep((TELL,) * 12)), True)
        for branch in (("while", "a", ()), ("if", "a", (), ()), BRANCHES[0], BRANCHES[1]):
            self.assertIs(stands(deep((branch,))), False)
            self.assertIs(stands(deep((TELL, branch))), False)

    def test_blocks_beside_one_another_are_not_deeper(self):
        branch = ("if", "a", (("while", "a", (("while", "a", ()),)),), (("while", "a", (("while", "a", ()),)),))
        self.assertIs(is_net(net_of(*(branch,) * 8)), True)

    def test_forty_for_an_actor(self):
        eleven = ("while", "a", (TELL,) * 10)
        nine = ("if", "a", (TELL,) * 5, (TELL,) * 3)
        self.assertIs(is_net(net_of(eleven, eleven, eleven, TELL, TELL, TELL, TELL, TELL, TELL, TELL)), True)
        self.assertIs(is_net(net_of(eleven, eleven, eleven, *(TELL,) * 8)), False)
        self.assertIs(is_net(net_of(nine, nine, nine, nine, TELL, TELL, TELL, TELL)), True)
        self.assertIs(is_net(net_of(nine, nine, nine, nine, *(TELL,) * 5)), False)

    def test_forty_in_the_second_block(self):
        inner = ("while", "a", (TELL,) * 12)
        outer = ("while", "a", (inner, inner, inner))
        self.assertIs(stands(outer), True)
        self.assertIs(is_net(net_of(outer, TELL)), False)
        self.assertIs(stands(("while", "a", (inner, inner, inner, TELL))), False)
        self.assertIs(stands(("if", "a", (inner, inner), (inner,))), True)
        self.assertIs(stands(("if", "a", (inner, inner), (inner, TELL))), False)

    def test_forty_each(self):
        inner = ("while", "a", (TELL,) * 12)
        forty = (inner, inner, inner, TELL)
        self.assertIs(is_net(((), (forty,) * 4)), True)
        self.assertIs(is_net(((), (forty, forty, forty, forty + (TELL,)))), False)
        self.assertIs(is_net(((), (forty + (TELL,), ()))), False)


class TestNets(unittest.TestCase):
    def test_actors(self):
        for many in (1, 2, 3, 4):
            self.assertIs(is_net(((), ((),) * many)), True)
            self.assertIs(is_net(((), ((TELL,),) * many)), True)
        for many in (0, 5, 6):
            self.assertIs(is_net(((), ((),) * many)), False)

    def test_channels(self):
        for many in range(7):
            self.assertIs(is_net((((0, 1),) * many, ((), ()))), True)
        for many in (7, 8):
            self.assertIs(is_net((((0, 1),) * many, ((), ()))), False)

    def test_channels_lead_between_unlike_actors(self):
        for channel in ((0, 1), (1, 0), (0, 2), (2, 1)):
            self.assertIs(is_net(((channel,), ((), (), ()))), True, channel)
        for channel in (
            (0, 0), (1, 1), (2, 2), (0, 3), (3, 0), (-1, 0), (0, -1), (GREAT, 0), (0,), (), (0, 1, 2), [0, 1],
            (0, True), (False, 1), (True, False), ("0", "1"), (None, 1), 0, "01", {0: 1},
        ):
            self.assertIs(is_net(((channel,), ((), (), ()))), False, channel)
            self.assertIs(is_net((((0, 1), channel), ((), (), ()))), False, channel)
        self.assertIs(is_net((((0, 1),), ((),))), False)

    def test_only_its_sender_sends(self):
        channels = ((0, 1), (1, 2))
        for actor in range(3):
            for m in (-1, 0, 1, 2, GREAT):
                actors = [(), (), ()]
                actors[actor] = (("send", m, "G"),)
                self.assertIs(is_net((channels, tuple(actors))), (actor, m) in ((0, 0), (1, 1)), (actor, m))

    def test_only_its_taker_takes(self):
        channels = ((0, 1), (1, 2))
        for actor in range(3):
            for m in (-1, 0, 1, 2, GREAT):
                actors = [(), (), ()]
                actors[actor] = (("take", "G", m),)
                self.assertIs(is_net((channels, tuple(actors))), (actor, m) in ((1, 0), (2, 1)), (actor, m))

    def test_channels_within_blocks(self):
        for deed, right in ((("send", 0, "G"), True), (("send", 1, "G"), False), (("take", "G", 1), True),
                            (("take", "G", 0), False), (("send", False, "G"), False), (("take", "G", True), False)):
            self.assertIs(stands(("while", "a", (deed,))), right, deed)
            self.assertIs(stands(("if", "a", (), (("if", "a", (deed,), ()),))), right, deed)

    def test_without_channels_none_sends(self):
        self.assertIs(is_net(((), ((("send", 0, "G"),), ()))), False)
        self.assertIs(is_net(((), ((("take", "G", 0),), ()))), False)

    def test_two_parts(self):
        for thing in ((), ((),), ((), ((),), ()), ((), ((),), None), [(), ((),)], [[], [[]]], ((), [()]), ([], ((),))):
            self.assertIs(is_net(thing), False, thing)

    def test_other_kinds(self):
        for thing in spoiled(net_of(*BRANCHES)):
            self.assertIs(is_net(thing), False, thing)

    def test_anything_is_answered(self):
        for thing in ANYTHING:
            before = copy.deepcopy(thing)
            self.assertIn(is_net(thing), (True, False))
            self.assertIn(is_net((thing, ((),))), (True, False))
            self.assertIn(is_net(((), thing)), (True, False))
            self.assertIn(is_net(((), (thing,))), (True, False))
            self.assertIn(stands(thing), (True, False))
            self.assertEqual(thing, before)
        for thing in NEVER:
            self.assertIs(is_net(thing), False)

    def test_by_name_and_again(self):
        net = net_of(*BRANCHES)
        self.assertIs(is_net(thing=net), True)
        self.assertIs(is_net(net), True)

    def test_no_net_is_refused(self):
        self.assertIsNone(check_net(net_of(*BRANCHES)))
        for thing in ANYTHING:
            if not is_net(thing):
                self.assertRaises(NoNet, check_net, thing)


if __name__ == "__main__":
    unittest.main()
