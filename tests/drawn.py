"""Nets, code and weavings, drawn by a fixed rule: the same seed tells the same ones."""

import random

from giveway.code import flat
from giveway.moves import least

NUMBERS = ("a", "b", "c", "d")
GRAPHS = ("G", "H", "K")
WORDS = (
    "num", "sum", "new", "let", "add", "put", "tie", "hang", "get", "sort", "pick", "send", "take", "tell", "show",
    "add", "hang", "hang", "pick", "send", "send", "send", "take", "take", "let",
)


class Draw:
    def __init__(self, seed):
        self.chance = random.Random(seed)

    def one(self, things):
        return self.chance.choice(things)

    def many(self, least_many, most):
        return self.chance.randint(least_many, most)

    def net(self, longest=12, deepest=3):
        actors = self.one((1, 2, 2, 2, 3, 3, 4))
        channels = ()
        if actors > 1:
            channels = tuple(tuple(self.chance.sample(range(actors), 2)) for _ in range(self.one((0, 1, 2, 3, 4, 6))))
        blocks = []
        for actor in range(actors):
            sends = [m for m, channel in enumerate(channels) if channel[0] == actor]
            takes = [m for m, channel in enumerate(channels) if channel[1] == actor]
            blocks.append(self.own_block(sends, takes, longest, deepest))
        return (channels, tuple(blocks))

    def own_block(self, sends, takes, longest, deepest):
        """An actor's own block; every other one goes on for some rounds, counted by names that no drawn deed has."""
        self.left = 36
        if self.many(0, 1):
            return self.block(sends, takes, 1, longest, deepest)
        block = self.block(sends, takes, 1, min(longest, 10), deepest)
        block += (("num", "one", 1), ("sum", "rounds", "rounds", "-", "one"))
        return (("num", "rounds", self.many(1, 3)), ("while", "rounds", block))

    def block(self, sends, takes, level, longest, deepest):
        statements = []
        for _ in range(self.many(0 if level > 1 else 3, longest)):
            if self.left == 0:
                break
            self.left -= 1
            statements.append(self.statement(sends, takes, level, longest, deepest))
        return tuple(statements)

    def statement(self, sends, takes, level, longest, deepest):
        if level < deepest and self.many(1, 6) == 1:
            if self.many(0, 1):
                blocks = tuple(self.block(sends, takes, level + 1, longest // 2, deepest) for _ in range(2))
                return ("if", self.one(NUMBERS)) + blocks
            return ("while", self.one(NUMBERS), self.block(sends, takes, level + 1, longest // 2, deepest))
        return self.deed(sends, takes)

    def deed(self, sends, takes):
        word = self.one(WORDS)
        a, b, c = (self.one(NUMBERS) for _ in range(3))
        g, h = self.chance.sample(GRAPHS, 2)
        k = self.many(0, 2)
        if word == "send" and not sends or word == "take" and not takes:
            word = "new"
        return {
            "num": lambda: ("num", a, self.one((0, 1, 2, 3, -1, 9999, -9999, 5000))),
            "sum": lambda: ("sum", a, b, self.one("+-*<="), c),
            "new": lambda: ("new", g),
            "let": lambda: ("let", g, h),
            "add": lambda: ("add", g, a),
            "put": lambda: ("put", g, b, k, c),
            "tie": lambda: ("tie", g, b, k, c),
            "hang": lambda: ("hang", g, b, k, h),
            "get": lambda: ("get", a, g, b, k),
            "sort": lambda: ("sort", a, g, b, k),
            "pick": lambda: ("pick", g, self.one((g, h)), b, k),
            "send": lambda: ("send", self.one(sends), g),
            "take": lambda: ("take", g, self.one(takes)),
            "tell": lambda: ("tell", a),
            "show": lambda: ("show", g),
        }[word]()

    def weaving(self, net, many):
        return [self.many(0, len(net[1]) - 1) for _ in range(many)]

    def ways(self, code):
        """The code with last parts drawn anew."""
        return tuple(tuple(self.way(row) for row in rows) for rows in code)

    def way(self, row):
        deed, nexts = row
        if deed[0] not in ("let", "hang", "pick", "send"):
            return row
        return (deed[:-1] + (self.one(("copy", "give")),), nexts)

    def safe_code(self, net):
        """Safe code of the net's own: the least one, with some rows that give made copying."""
        code = least(net)
        return tuple(
            tuple(
                (deed[:-1] + ("copy",), nexts) if deed[-1] == "give" and self.many(0, 1) else (deed, nexts)
                for deed, nexts in rows
            )
            for rows in code
        )

    def other_code(self, net):
        """Code of the net with nexts drawn anew, and rows left out, twice or exchanged."""
        return tuple(self.other_rows(rows) for rows in flat(net))

    def other_rows(self, rows):
        if not rows:
            return ()
        drawn = [self.way(self.one(rows)) for _ in range(self.many(0, 40))]
        return tuple(
            (deed, tuple(self.many(-1, len(drawn) - 1) for _ in nexts)) for deed, nexts in drawn
        )
