"""Flat code: rows with their nexts, one for each statement of an actor."""

from giveway.errors import NoCode
from giveway.kinds import is_tuple, is_within
from giveway.nets import check_net, is_deed, is_number_name, sends_of, takes_of, word_of

# A row stands for a statement, so flat code has at most as many of them.
MOST_ROWS = 40
END = -1

# The deeds that hand a graph on, copied or given away, as their last part tells.
HANDING = ("let", "hang", "pick", "send")
WAYS = ("copy", "give")


def hands_on(deed):
    """Whether the deed of a row has a last part."""
    return deed[0] in HANDING


def is_test(thing):
    """Whether it is a test of a number."""
    return word_of(thing) == "test" and len(thing) == 2 and is_number_name(thing[1])


def is_flat_deed(thing, sends, takes):
    """Whether it is a deed of a row other than a test, of an actor that has these channels."""
    if word_of(thing) not in HANDING:
        return is_deed(thing, sends, takes)
    return thing[-1] in WAYS and is_deed(thing[:-1], sends, takes)


def is_row(thing, many, sends, takes):
    """Whether it is one of so many rows of flat code, of an actor that has these channels."""
    if not is_tuple(thing, 2, 2):
        return False
    deed, nexts = thing
    if not is_test(deed) and not is_flat_deed(deed, sends, takes):
        return False
    wanted = 2 if is_test(deed) else 1
    return is_tuple(nexts, wanted, wanted) and all(is_within(after, END, many - 1) for after in nexts)


def are_rows(thing, sends, takes):
    """Whether it is flat code, of an actor that sends into and takes from these channels."""
    if not is_tuple(thing, 0, MOST_ROWS):
        return False
    return all(is_row(row, len(thing), sends, takes) for row in thing)


def is_code(net, thing):
    """Whether it is code of the net, of anything."""
    check_net(net)
    channels, actors = net
    if not is_tuple(thing, len(actors), len(actors)):
        return False
    return all(
        are_rows(rows, sends_of(channels, actor), takes_of(channels, actor)) for actor, rows in enumerate(thing)
    )


def check_code(net, code):
    """Refuses what is no net, and what is no code of it."""
    if not is_code(net, code):
        raise NoCode("no code of the net")


def with_way(row, way):
    """The row with this last part, where it has one; else itself."""
    deed, nexts = row
    return (deed[:-1] + (way,), nexts) if hands_on(deed) else row


def copying(rows):
    """The rows, all last parts "copy"."""
    return tuple(with_way(row, "copy") for row in rows)


def size_of(statement):
    """How many rows a statement has, those of its blocks counted too."""
    if statement[0] not in ("if", "while"):
        return 1
    return 1 + sum([size_of(inner) for block in statement[2:] for inner in block])


def flat_block(block, first, behind):
    """The rows of a block from the number first on, which goes on to the row behind."""
    rows = []
    for place, statement in enumerate(block):
        number = first + len(rows)
        after = number + size_of(statement) if place + 1 < len(block) else behind
        rows.extend(flat_statement(statement, number, after))
    return rows


def flat_statement(statement, number, behind):
    """The rows of a statement from its own number on, which goes on to the row behind."""
    if statement[0] == "if":
        return flat_if(statement, number, behind)
    if statement[0] == "while":
        return flat_while(statement, number, behind)
    deed = statement + ("copy",) if hands_on(statement) else statement
    return [(deed, (behind,))]


def flat_if(statement, number, behind):
    """The rows of an `if`: a test, then those of both blocks."""
    rows = flat_block(statement[2], number + 1, behind)
    middle = number + 1 + len(rows)
    others = flat_block(statement[3], middle, behind)
    nexts = (number + 1 if rows else behind, middle if others else behind)
    return [(("test", statement[1]), nexts)] + rows + others


def flat_while(statement, number, behind):
    """The rows of a `while`: a test, then those of the block, which goes on to the test."""
    rows = flat_block(statement[2], number + 1, number)
    return [(("test", statement[1]), (number + 1 if rows else number, behind))] + rows


def flat(net):
    """The flat code that the net has, all last parts "copy"."""
    check_net(net)
    return tuple(tuple(flat_block(block, 0, END)) for block in net[1])


def is_own(net, code):
    """Whether code of the net has the net's own rows, but for the last parts."""
    check_code(net, code)
    return tuple(copying(rows) for rows in code) == flat(net)
