"""A desk: a machine that is told lines, and answers by texts."""

from giveway.errors import NoLine, NoNet
from giveway.machine import Machine
from giveway.moves import paper_of
from giveway.texts import graph_text, whole_from
from giveway.waits import knot

MOST_FIGURES = 30

# The parts of each line behind its first word.
FORMS = {
    "step": ("number",),
    "back": (),
    "collect": ("number",),
    "at": ("number",),
    "told": ("number",),
    "name": ("number", "word"),
    "channel": ("number",),
    "heap": ("number",),
    "copied": (),
    "steps": (),
    "code": ("number",),
    "why": ("number", "number"),
    "keeps": ("number", "address"),
    "who": (),
}

# Lines with one or more numbers behind the first word.
LONG = ("weave", "try")


def address_from(word):
    """The address that a word writes; None where it writes none."""
    parts = tuple(whole_from(part, MOST_FIGURES) for part in word.split("."))
    return parts if len(parts) == 2 and None not in parts else None


def said_part(kind, word):
    """The part of a line that a word writes; None where it writes none."""
    if kind == "number":
        return whole_from(word, MOST_FIGURES)
    if kind == "address":
        return address_from(word)
    return word if word else None


def kinds_of(words):
    """The kinds of the parts that a line with these words must have; None where it has no form."""
    if words[0] in LONG:
        return ("number",) * max(1, len(words) - 1)
    return FORMS.get(words[0])


def read_line(line):
    """The first word of a line and its parts; refuses what has no form of a line."""
    if not isinstance(line, str):
        raise NoLine("a line is a text")
    words = line.split(" ")
    kinds = kinds_of(words)
    if kinds is None or len(kinds) != len(words) - 1:
        raise NoLine("a line of no form")
    parts = tuple(said_part(kind, word) for kind, word in zip(kinds, words[1:]))
    if None in parts:
        raise NoLine("a part of a line is of no form")
    return (words[0],) + parts


def listed(words):
    """The words with a blank between; `none` where there are none."""
    return " ".join(words) if words else "none"


def worth_text(worth):
    """A number or a graph as it is written."""
    return graph_text(worth) if isinstance(worth, tuple) else str(worth)


def address_text(address):
    """An address as it is written."""
    return f"{address[0]}.{address[1]}"


def addresses_text(addresses):
    """Addresses as they are written; `none` where there are none."""
    return listed([address_text(address) for address in addresses])


def parts_text(parts):
    """Numbers and texts with commas between."""
    return ",".join([str(part) for part in parts])


def row_text(number, row):
    """A row of flat code with its number."""
    deed, nexts = row
    return f"{number}:{parts_text(deed)}>{parts_text(nexts)}"


def standing_text(place, m):
    """Where an actor stands, and the channel for which it waits."""
    return str(place) if m is None else f"{place} waits {m}"


def waiting_text(machine):
    """Who waits for whom; `moving` where the machine is not still."""
    if not machine.is_still():
        return "moving"
    word, found = knot(machine)
    if word == "knot":
        return listed([word] + [str(actor) for actor in found])
    return listed([word] + [f"{actor}>{end}" for actor, end in found])


class Desk:
    """A desk for a net, or without one."""

    def __init__(self, net=None):
        self.machine = None if net is None else Machine(net)

    def say(self, line):
        """Does or answers what the line says; refuses what has no form of a line ahead of all else."""
        said = read_line(line)
        if self.machine is None:
            raise NoNet("this desk has no net")
        return self.answer(said)

    def answer(self, said):
        """Does what a line says, or asks the machine for it; tells the text of what comes of it."""
        machine = self.machine
        match said:
            case ("step", actor):
                return "yes" if machine.step(actor) else "no"
            case ("weave", *weaving):
                return str(len(machine.weave(weaving)))
            case ("try", *weaving):
                return str(len(machine.trial(weaving)))
            case ("back",):
                machine.back()
                return "ok"
            case ("collect", actor):
                return addresses_text(machine.collect(actor))
            case ("heap", actor):
                return addresses_text(machine.heap(actor))
            case ("copied",):
                return str(machine.copied())
            case ("steps",):
                return str(machine.steps())
            case ("who",):
                return waiting_text(machine)
            case ("at", actor):
                return standing_text(machine.at(actor), machine.waits(actor))
            case ("told", actor):
                return listed([worth_text(worth) for worth in machine.told(actor)])
            case ("channel", m):
                return listed([graph_text(graph) for graph in machine.channel(m)])
            case ("name", actor, name):
                return self.name_text(actor, name)
            case ("code", actor):
                return self.code_text(actor)
            case ("why", actor, row):
                return self.why_text(actor, row)
            case ("keeps", actor, address):
                return self.keeps_text(actor, address)

    def rows_of(self, actor):
        """The flat code of an actor."""
        self.machine.check_actor(actor)
        return self.machine.code[actor]

    def code_text(self, actor):
        """The rows of the flat code of an actor; `none` where there are none."""
        return listed([row_text(number, row) for number, row in enumerate(self.rows_of(actor))])

    def name_text(self, actor, name):
        """What a name holds; `empty` where it holds nothing."""
        worth = self.machine.holds(actor, name)
        return "empty" if worth is None else worth_text(worth)

    def why_text(self, actor, row):
        """The paper of a row."""
        word, points = paper_of(self.rows_of(actor), row)
        return listed([word] + [str(point) for point in points])

    def keeps_text(self, actor, address):
        """The paper of an address, its points by their addresses."""
        word, points = self.machine.paper(actor, address)
        addresses = self.machine.heap_case(actor)[0]
        return listed([word] + [address_text(addresses[point]) for point in points])
