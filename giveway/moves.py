"""Copied or given: which rows of flat code must copy what they hand on."""

from giveway.charts import paper
from giveway.code import END, are_rows, check_code, flat, hands_on, with_way
from giveway.errors import NoCode, NoRow
from giveway.kinds import is_within
from giveway.nets import MOST_CHANNELS

# Where the graph-names stand whose graphs each deed wants, fills, or spends.
USES = {
    "let": (2,),
    "pick": (2,),
    "add": (1,),
    "put": (1,),
    "tie": (1,),
    "get": (2,),
    "sort": (2,),
    "send": (2,),
    "show": (1,),
    "hang": (1, 4),
}
FILLS = {"new": 1, "let": 1, "pick": 1, "take": 1}
SPENDS = {"let": 2, "hang": 4, "pick": 2, "send": 2}


def channels_of(rows, word, place):
    """The numbers of channels that stand at this place of the deeds of this word."""
    return [deed[place] for deed, nexts in rows if deed[0] == word]


def is_flat_code(thing):
    """Whether it is flat code of an actor in whatever net, of anything."""
    channels = tuple(range(MOST_CHANNELS))
    if not are_rows(thing, channels, channels):
        return False
    taken = channels_of(thing, "take", 2)
    return not any(m in taken for m in channels_of(thing, "send", 1))


def check_rows(rows):
    """Refuses what is no flat code."""
    if not is_flat_code(rows):
        raise NoCode("no flat code of an actor")


def check_row(rows, row):
    """Refuses what is no flat code, and what is no number of a row with a last part."""
    check_rows(rows)
    if not is_within(row, 0, len(rows) - 1) or not hands_on(rows[row][0]):
        raise NoRow("no number of a row with a last part")


def uses(deed, name):
    """Whether the deed wants the graph of the name."""
    return any(deed[place] == name for place in USES.get(deed[0], ()))


def fills(deed, name):
    """Whether the deed fills the name."""
    return deed[0] in FILLS and deed[FILLS[deed[0]]] == name


def points_behind(row, name):
    """The rows that follow, as points of a chart; none where the row fills the name."""
    deed, nexts = row
    if fills(deed, name):
        return ()
    return tuple(sorted({after for after in nexts if after != END}))


def made_case(rows, row):
    """The case of a row, of which all is known to be right."""
    deed = rows[row][0]
    name = deed[SPENDS[deed[0]]]
    chart = tuple(points_behind(other, name) for other in rows)
    goals = tuple(number for number in range(len(rows)) if uses(rows[number][0], name))
    # A row with a last part has one next alone, so the points behind it are the starts.
    return (chart, chart[row], goals)


def made_paper(rows, row):
    """The paper of a row, of which all is known to be right."""
    chart, starts, goals = made_case(rows, row)
    return paper(chart, starts, goals)


def case_of(rows, row):
    """The tuple (chart, starts, goals) of a row: from behind it to the later uses of what it spends."""
    check_row(rows, row)
    return made_case(rows, row)


def paper_of(rows, row):
    """The paper of a row: a way to a later use of what it spends, or a bar."""
    check_row(rows, row)
    return made_paper(rows, row)


def must_copy(rows):
    """The rising tuple of the rows that must copy."""
    check_rows(rows)
    handing = [row for row in range(len(rows)) if hands_on(rows[row][0])]
    return tuple(row for row in handing if made_paper(rows, row)[0] == "way")


def unsafe(rows):
    """The tuple (row, way) of the least row whose giving isn't safe; None where there is none."""
    for row in must_copy(rows):
        if rows[row][0][-1] == "give":
            return (row, made_paper(rows, row)[1])
    return None


def is_safe(net, code):
    """Whether code of the net is safe."""
    check_code(net, code)
    return all(unsafe(rows) is None for rows in code)


def least_rows(rows):
    """The same rows, which copy just where they must."""
    copied = must_copy(rows)
    return tuple(with_way(row, "copy" if number in copied else "give") for number, row in enumerate(rows))


def least(net, code=None):
    """The least code of the same rows; of the net's own where no code is handed in."""
    if code is None:
        return tuple(least_rows(rows) for rows in flat(net))
    check_code(net, code)
    return tuple(least_rows(rows) for rows in code)
