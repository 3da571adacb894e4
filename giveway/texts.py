"""Texts: graphs and nets, written and read."""

from giveway.errors import NoText
from giveway.graphs import MOST_DEEP, NUMBER, PLACES, TIE, check_graph, is_graph, sort_of
from giveway.kinds import is_tuple
from giveway.nets import (
    BRANCHES, MOST_ACTORS, MOST_CHANNELS, MOST_IN_BLOCK, MOST_STATEMENTS, MOST_WITHIN, check_net, is_channel, is_deed,
    is_net, is_number_name, sends_of, takes_of,
)

# The number of greatest length in a graph or a net: -9999.
MOST_FIGURES = 5
INDENT = "  "


def whole_from(word, most):
    """The whole number that a word of at most so many signs writes; None where it writes none."""
    figures = word.removeprefix("-")
    if not 0 < len(figures) <= len(word) <= most or not all("0" <= sign <= "9" for sign in figures):
        return None
    number = int(word)
    return number if str(number) == word else None


def place_text(place):
    """A place of a graph as it is written."""
    sort = sort_of(place)
    if sort == NUMBER:
        return str(place)
    return f"~{place[1]}" if sort == TIE else f"({boxes_text(place)})"


def box_text(box):
    """A box of a graph as it is written."""
    places = " ".join([place_text(place) for place in box])
    return f"[{places}]"


def boxes_text(graph):
    """The boxes of a graph as they are written."""
    return "".join([box_text(box) for box in graph])


def graph_text(graph):
    """A graph as it is written."""
    check_graph(graph)
    return boxes_text(graph)


class Signs:
    """The signs of a graph's text, read one behind the other."""

    def __init__(self, text):
        self.text = text
        self.here = 0

    def comes(self, sign):
        """Whether this sign comes next."""
        return self.text[self.here:self.here + 1] == sign

    def want(self, sign):
        """Goes on behind this sign; refuses any other one."""
        if not self.comes(sign):
            raise NoText(0)
        self.here += 1

    def word(self):
        """Goes on to the next blank or bracket; tells the signs ahead of it."""
        first = self.here
        while self.here < len(self.text) and self.text[self.here] not in " []()":
            self.here += 1
        return self.text[first:self.here]


def read_boxes(signs, deep):
    """The boxes of a graph that is at most so deep."""
    if deep == 0:
        raise NoText(0)
    boxes = []
    while signs.comes("["):
        boxes.append(read_box(signs, deep))
    return tuple(boxes)


def read_box(signs, deep):
    """A box of a graph that is at most so deep."""
    signs.want("[")
    places = [read_place(signs, deep)]
    while len(places) < PLACES:
        signs.want(" ")
        places.append(read_place(signs, deep))
    signs.want("]")
    return tuple(places)


def read_place(signs, deep):
    """A place of a graph that is at most so deep."""
    if signs.comes("("):
        signs.want("(")
        graph = read_boxes(signs, deep - 1)
        signs.want(")")
        return graph
    if signs.comes("~"):
        signs.want("~")
        return ("tie", read_number(signs))
    return read_number(signs)


def read_number(signs):
    """A number of a graph's text."""
    number = whole_from(signs.word(), MOST_FIGURES)
    if number is None:
        raise NoText(0)
    return number


def read_graph(text):
    """The graph that is written so; refuses anything else."""
    if not isinstance(text, str):
        raise NoText(0)
    graph = read_boxes(Signs(text), MOST_DEEP)
    # What is read need not be a graph yet, and signs may be left behind it.
    if not is_graph(graph) or boxes_text(graph) != text:
        raise NoText(0)
    return graph


def words_text(parts):
    """The words of numbers and texts, with a blank between."""
    return " ".join([str(part) for part in parts])


def statement_rows(statement, ahead):
    """The rows of a statement, with these blanks ahead."""
    if statement[0] not in BRANCHES:
        return [ahead + words_text(statement)]
    rows = [ahead + words_text(statement[:2])] + block_rows(statement[2], ahead + INDENT)
    if statement[0] == "if":
        rows += [ahead + "else"] + block_rows(statement[3], ahead + INDENT)
    return rows


def block_rows(block, ahead):
    """The rows of the statements of a block, with these blanks ahead."""
    rows = []
    for statement in block:
        rows.extend(statement_rows(statement, ahead))
    return rows


def net_text(net):
    """A net as it is written."""
    check_net(net)
    channels, actors = net
    rows = [words_text(["channels"] + [f"{sender}>{taker}" for sender, taker in channels])]
    for block in actors:
        rows += ["actor"] + block_rows(block, "")
    return "\n".join(rows)


def channel_from(word):
    """The channel that a word writes; None where it writes none."""
    channel = tuple(whole_from(part, 1) for part in word.split(">"))
    return channel if is_channel(channel, MOST_ACTORS) else None


def part_from(word):
    """The part of a statement that a word writes: a whole number, or the word itself."""
    number = whole_from(word, MOST_FIGURES)
    return word if number is None else number


def is_head(parts):
    """Whether these are the parts of an `if` or a `while` ahead of its blocks."""
    return is_tuple(parts, 2, 2) and parts[0] in BRANCHES and is_number_name(parts[1])


class Block:
    """A block that is being read, and the parts of its statement ahead of it; none of an actor's own."""

    def __init__(self, head):
        self.head = head
        self.statements = []

    def parts(self):
        """The parts of the statement, this block the last of them."""
        return self.head + (tuple(self.statements),)

    def lacks_other(self):
        """Whether it is the first of an `if`'s two blocks."""
        return len(self.head) == 2 and self.head[0] == "if"


class NetRows:
    """A net that is read row by row.

    Each reading of a row tells whether the rows so far can be the begin of a written net;
    where they can't, no other row may be read.
    """

    def __init__(self):
        self.channels = None
        self.actors = []
        self.blocks = []
        self.room = 0

    def read_row(self, row):
        """Reads a row."""
        if self.channels is None:
            return self.read_channels(row)
        if row == "actor":
            return self.begin_actor()
        words = row.lstrip(" ")
        shells = (len(row) - len(words)) // len(INDENT)
        if row != INDENT * shells + words or shells >= len(self.blocks):
            return False
        level = shells + 1
        return self.begin_other(level) if words == "else" else self.read_statement(words, level)

    def read_channels(self, row):
        """Reads the row of the channels."""
        words = row.split(" ")
        channels = tuple(channel_from(word) for word in words[1:])
        self.channels = channels
        return words[0] == "channels" and len(channels) <= MOST_CHANNELS and None not in channels

    def close_to(self, level):
        """Ends the blocks within the one of this level; tells whether they may end here."""
        while len(self.blocks) > level:
            block = self.blocks.pop()
            if block.lacks_other():
                return False
            self.blocks[-1].statements.append(block.parts())
        return True

    def end_actor(self):
        """Ends the blocks of the actor that is being read, where there is one; tells whether they may end here."""
        if not self.blocks:
            return True
        if not self.close_to(1):
            return False
        self.actors.append(tuple(self.blocks.pop().statements))
        return True

    def begin_actor(self):
        """Reads the row ahead of an actor's statements."""
        if not self.end_actor() or len(self.actors) == MOST_ACTORS:
            return False
        self.blocks.append(Block(()))
        self.room = MOST_STATEMENTS
        return True

    def begin_other(self, level):
        """Reads the row ahead of the other block of an `if` that stands in a block of this level."""
        if not self.close_to(level + 1) or len(self.blocks) == level or not self.blocks[-1].lacks_other():
            return False
        self.blocks.append(Block(self.blocks.pop().parts()))
        return True

    def read_statement(self, words, level):
        """Reads the row of a statement in a block of this level."""
        if not self.close_to(level) or len(self.blocks[-1].statements) == MOST_IN_BLOCK or self.room == 0:
            return False
        self.room -= 1
        parts = tuple(part_from(word) for word in words.split(" "))
        actor = len(self.actors)
        if is_deed(parts, sends_of(self.channels, actor), takes_of(self.channels, actor)):
            self.blocks[-1].statements.append(parts)
            return True
        if not is_head(parts) or level == MOST_WITHIN:
            return False
        self.blocks.append(Block(parts))
        return True

    def made_net(self):
        """What the rows so far have written; None where an `else` lacks."""
        return (self.channels, tuple(self.actors)) if self.end_actor() else None


def read_net(text):
    """The net that is written so; refuses anything else, with the row that shows it."""
    if not isinstance(text, str):
        raise NoText(0)
    rows = text.split("\n")
    reader = NetRows()
    for number, row in enumerate(rows, start=1):
        if not reader.read_row(row):
            raise NoText(number)
    net = reader.made_net()
    # Actors may still lack behind the last row.
    if not is_net(net):
        raise NoText(len(rows) + 1)
    return net
