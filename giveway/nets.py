"""Nets: channels, and a block of statements for each actor."""

from giveway.errors import NoNet
from giveway.graphs import is_number, is_place
from giveway.kinds import is_tuple, is_whole, is_within

MOST_SIGNS = 6
MOST_IN_BLOCK = 12
MOST_WITHIN = 4
MOST_STATEMENTS = 40
MOST_CHANNELS = 6
MOST_ACTORS = 4

SIGNS = ("+", "-", "*", "<", "=")

# The parts of each deed behind its word; "into" and "from" are numbers of channels.
DEEDS = {
    "num": ("name", "number"),
    "sum": ("name", "name", "sign", "name"),
    "new": ("graph",),
    "let": ("graph", "graph"),
    "add": ("graph", "name"),
    "put": ("graph", "name", "place", "name"),
    "tie": ("graph", "name", "place", "name"),
    "hang": ("graph", "name", "place", "graph"),
    "get": ("name", "graph", "name", "place"),
    "sort": ("name", "graph", "name", "place"),
    "pick": ("graph", "graph", "name", "place"),
    "send": ("into", "graph"),
    "take": ("graph", "from"),
    "tell": ("name",),
    "show": ("graph",),
}

# Deeds whose first and last part are unlike names.
UNLIKE = ("let", "hang")

# How many blocks stand behind the name of each branch.
BRANCHES = {"if": 2, "while": 1}


def are_small(text):
    """Whether all signs are small letters from a to z."""
    return all("a" <= sign <= "z" for sign in text)


def is_number_name(thing):
    """Whether it is a number-name, of anything."""
    return isinstance(thing, str) and 1 <= len(thing) <= MOST_SIGNS and are_small(thing)


def is_graph_name(thing):
    """Whether it is a graph-name, of anything."""
    if not isinstance(thing, str) or not 1 <= len(thing) <= MOST_SIGNS:
        return False
    return "A" <= thing[0] <= "Z" and are_small(thing[1:])


def fits(kind, part, sends, takes):
    """Whether it is a part of this kind for an actor that sends into and takes from these channels."""
    if kind == "name":
        return is_number_name(part)
    if kind == "graph":
        return is_graph_name(part)
    if kind == "number":
        return is_number(part)
    if kind == "place":
        return is_place(part)
    if kind == "sign":
        return part in SIGNS
    return is_whole(part) and part in (sends if kind == "into" else takes)


def word_of(thing):
    """The text with which a tuple begins; an empty one where there is none."""
    if isinstance(thing, tuple) and len(thing) > 0 and isinstance(thing[0], str):
        return thing[0]
    return ""


def is_deed(thing, sends, takes):
    """Whether it is a statement without blocks, of an actor that sends into and takes from these channels."""
    word = word_of(thing)
    if word not in DEEDS:
        return False
    wanted = DEEDS[word]
    if len(thing) != len(wanted) + 1:
        return False
    if not all(fits(kind, part, sends, takes) for kind, part in zip(wanted, thing[1:])):
        return False
    return word not in UNLIKE or thing[1] != thing[-1]


def is_branch(thing):
    """Whether it is an `if` or a `while`, whatever stands in place of its blocks."""
    word = word_of(thing)
    return word in BRANCHES and len(thing) == 2 + BRANCHES[word] and is_number_name(thing[1])


def statement_size(thing, level, sends, takes):
    """How many statements it is, itself counted too; None of what is none in a block of this level."""
    if is_deed(thing, sends, takes):
        return 1
    if not is_branch(thing):
        return None
    total = 1
    for block in thing[2:]:
        many = block_size(block, level + 1, sends, takes)
        if many is None:
            return None
        total += many
    return total


def block_size(thing, level, sends, takes):
    """How many statements a block of this level has; None of what is none, or has too many."""
    if level > MOST_WITHIN or not is_tuple(thing, 0, MOST_IN_BLOCK):
        return None
    total = 0
    for statement in thing:
        many = statement_size(statement, level, sends, takes)
        if many is None:
            return None
        total += many
    return total if total <= MOST_STATEMENTS else None


def is_channel(thing, actors):
    """Whether it is a tuple of two unlike numbers of so many actors."""
    if not is_tuple(thing, 2, 2) or not all(is_within(actor, 0, actors - 1) for actor in thing):
        return False
    return thing[0] != thing[1]


def sends_of(channels, actor):
    """The numbers of the channels into which the actor sends."""
    return tuple(m for m in range(len(channels)) if channels[m][0] == actor)


def takes_of(channels, actor):
    """The numbers of the channels from which the actor takes."""
    return tuple(m for m in range(len(channels)) if channels[m][1] == actor)


def is_net(thing):
    """Whether it is a net, of anything."""
    if not is_tuple(thing, 2, 2):
        return False
    channels, actors = thing
    if not is_tuple(channels, 0, MOST_CHANNELS) or not is_tuple(actors, 1, MOST_ACTORS):
        return False
    if not all(is_channel(channel, len(actors)) for channel in channels):
        return False
    for actor, block in enumerate(actors):
        if block_size(block, 1, sends_of(channels, actor), takes_of(channels, actor)) is None:
            return False
    return True


def check_net(net):
    """Refuses what is no net."""
    if not is_net(net):
        raise NoNet("no net")
