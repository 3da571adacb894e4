"""Runs: what a reading and a machine have in common."""

from giveway.code import END
from giveway.errors import NoActor, NoChannel, NoName, NoWeaving
from giveway.graphs import held, number_at, sort_at
from giveway.kinds import is_within
from giveway.nets import is_graph_name, is_number_name

MOST_TURNS = 400

# The deeds that are the same however graphs are held.
PLAIN = ("num", "sum", "get", "sort", "tell", "show", "take")


def made_by(sign, left, right):
    """What a sign makes of two numbers."""
    if sign == "+":
        return held(left + right)
    if sign == "-":
        return held(left - right)
    if sign == "*":
        return held(left * right)
    return int(left < right) if sign == "<" else int(left == right)


def check_name(name):
    """Refuses what is no name."""
    if not is_number_name(name) and not is_graph_name(name):
        raise NoName("neither a number-name nor a graph-name")


def check_turns(weaving):
    """Refuses what is no list or tuple, and one that is too long."""
    if not isinstance(weaving, (list, tuple)) or len(weaving) > MOST_TURNS:
        raise NoWeaving("a weaving is a list or tuple of at most 400 numbers")


class Run:
    """Actors that do rows of flat code, one at a time.

    What names and channels hold, graphs or addresses of them, is told by the class below.
    """

    def __init__(self, channels, code):
        self.channels = channels
        self.code = code
        self.places = {actor: 0 if rows else END for actor, rows in enumerate(code)}
        self.numbers = [{} for rows in code]
        self.names = [{} for rows in code]
        self.tellings = [{} for rows in code]
        self.queues = [{} for channel in channels]
        self.taken = {m: 0 for m in range(len(channels))}

    def graph_of(self, actor, name):
        """The graph that a name holds which isn't empty."""
        raise NotImplementedError("told by the class below")

    def do_graph(self, actor, deed):
        """Does a deed that changes a graph or hands one on."""
        raise NotImplementedError("told by the class below")

    def write(self, table, key, worth):
        """Every change of a run goes through here; None takes out what is there."""
        if worth is None:
            table.pop(key, None)
        else:
            table[key] = worth

    def is_actor(self, thing):
        """Whether it is the number of an actor."""
        return is_within(thing, 0, len(self.code) - 1)

    def check_actor(self, actor):
        """Refuses what is no actor."""
        if not self.is_actor(actor):
            raise NoActor("no number of an actor")

    def check_channel(self, number):
        """Refuses what is no channel."""
        if not is_within(number, 0, len(self.queues) - 1):
            raise NoChannel("no number of a channel")

    def check_weaving(self, weaving):
        """Refuses what is no weaving of the actors."""
        check_turns(weaving)
        if not all(self.is_actor(actor) for actor in weaving):
            raise NoWeaving("a weaving has numbers of actors alone")

    def place_of(self, actor):
        """The row that an actor does next, -1 where none is left."""
        self.check_actor(actor)
        return self.places[actor]

    def awaited(self, actor):
        """The channel for which an actor waits; None where it doesn't."""
        self.check_actor(actor)
        place = self.places[actor]
        if place == END:
            return None
        deed = self.code[actor][place][0]
        return deed[2] if deed[0] == "take" and self.has_none(deed[2]) else None

    def can_step(self, actor):
        """Whether an actor has a row left for which it needn't wait."""
        return self.places[actor] != END and self.awaited(actor) is None

    def none_can_step(self):
        """Whether no actor can do a step."""
        return not any(self.can_step(actor) for actor in range(len(self.code)))

    def do_step(self, actor):
        """Does the next row of an actor, where it can; tells whether it did."""
        self.check_actor(actor)
        if not self.can_step(actor):
            return False
        deed, nexts = self.code[actor][self.places[actor]]
        if deed[0] in PLAIN:
            self.do_plain(actor, deed)
        elif deed[0] != "test":
            self.do_graph(actor, deed)
        goes_other = deed[0] == "test" and self.number_of(actor, deed[1]) == 0
        self.write(self.places, actor, nexts[1] if goes_other else nexts[0])
        return True

    def do_plain(self, actor, deed):
        """Does a deed on numbers, or one that only looks at a graph or takes it."""
        match deed:
            case ("num", name, number):
                self.set_number(actor, name, number)
            case ("sum", name, left, sign, right):
                self.set_number(actor, name, made_by(sign, self.number_of(actor, left), self.number_of(actor, right)))
            case ("get", name, graph, box, k):
                self.set_number(actor, name, number_at(self.graph_of(actor, graph), self.number_of(actor, box), k))
            case ("sort", name, graph, box, k):
                self.set_number(actor, name, sort_at(self.graph_of(actor, graph), self.number_of(actor, box), k))
            case ("tell", name):
                self.tell(actor, self.number_of(actor, name))
            case ("show", graph):
                self.tell(actor, self.graph_of(actor, graph))
            case ("take", graph, m):
                self.hold(actor, graph, self.pull(m))

    def number_of(self, actor, name):
        """The number that a name holds."""
        return self.numbers[actor].get(name, 0)

    def set_number(self, actor, name, number):
        """Lets a name hold a number."""
        self.write(self.numbers[actor], name, number)

    def hold(self, actor, name, worth):
        """Lets a graph-name hold what is handed in; None empties it."""
        self.write(self.names[actor], name, worth)

    def tell(self, actor, worth):
        """Adds to what an actor has told."""
        self.write(self.tellings[actor], len(self.tellings[actor]), worth)

    def told_by(self, actor):
        """What an actor has told, in order."""
        self.check_actor(actor)
        return [self.tellings[actor][n] for n in range(len(self.tellings[actor]))]

    def push(self, m, worth):
        """Lets go into a channel what is handed in."""
        self.write(self.queues[m], len(self.queues[m]), worth)

    def has_none(self, m):
        """Whether nothing lies in a channel."""
        return self.taken[m] == len(self.queues[m])

    def pull(self, m):
        """Takes out of a channel what went into it first."""
        first = self.taken[m]
        self.write(self.taken, m, first + 1)
        return self.queues[m][first]

    def lying(self, m):
        """What lies in a channel, the first one first."""
        return [self.queues[m][n] for n in range(self.taken[m], len(self.queues[m]))]
