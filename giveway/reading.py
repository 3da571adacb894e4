"""The plain reading: whoever lets, hangs, picks or sends a graph does so with a whole copy."""

from giveway.code import END, flat
from giveway.errors import NoMost
from giveway.graphs import BARE, can_grow, graph_at, grown, with_graph, with_number, with_tie
from giveway.kinds import is_within
from giveway.nets import check_net, is_number_name
from giveway.runs import MOST_TURNS, Run, check_name


class Reading(Run):
    """A plain reading of a net; its names and channels hold the graphs themselves."""

    def __init__(self, net):
        check_net(net)
        super().__init__(net[0], flat(net))

    def step(self, actor):
        """Does the next step of an actor, where it can; tells whether it did."""
        return self.do_step(actor)

    def weave(self, weaving):
        """Does a step of each actor in turn; tells the tuple of those that did one."""
        self.check_weaving(weaving)
        return tuple([actor for actor in weaving if self.step(actor)])

    def at(self, actor):
        """The number of the statement at which an actor stands, -1 at its end."""
        return self.place_of(actor)

    def waits(self, actor):
        """The number of the channel for which an actor waits; None where it doesn't."""
        return self.awaited(actor)

    def told(self, actor):
        """The list of what an actor has told."""
        return self.told_by(actor)

    def holds(self, actor, name):
        """The number or graph that a name of an actor holds."""
        self.check_actor(actor)
        check_name(name)
        return self.number_of(actor, name) if is_number_name(name) else self.graph_of(actor, name)

    def channel(self, number):
        """The list of the graphs that lie in a channel."""
        self.check_channel(number)
        return self.lying(number)

    def is_still(self):
        """Whether no actor can do a step."""
        return self.none_can_step()

    def graph_of(self, actor, name):
        """The graph that a name holds."""
        return self.names[actor].get(name, BARE)

    def do_graph(self, actor, deed):
        """Does a deed that changes a graph or hands one on."""
        match deed:
            case ("new", name):
                self.hold(actor, name, BARE)
            case ("let", name, other, "copy"):
                self.hold(actor, name, self.graph_of(actor, other))
            case ("add", name, number):
                self.grow(actor, name, number)
            case ("put", name, box, k, number):
                self.put(actor, name, box, k, number)
            case ("tie", name, box, k, other):
                self.tie(actor, name, box, k, other)
            case ("hang", name, box, k, other, "copy"):
                self.hang(actor, name, box, k, other)
            case ("pick", name, other, box, k, "copy"):
                self.hold(actor, name, graph_at(self.graph_of(actor, other), self.number_of(actor, box), k))
            case ("send", m, name, "copy"):
                self.push(m, self.graph_of(actor, name))

    def grow(self, actor, name, number):
        """Lets the graph of a name grow, and a number-name hold the number of the new box."""
        graph = self.graph_of(actor, name)
        self.set_number(actor, number, len(graph) if can_grow(graph) else -1)
        self.hold(actor, name, grown(graph))

    def put(self, actor, name, box, k, number):
        """Puts a number into a place."""
        b = self.number_of(actor, box)
        self.hold(actor, name, with_number(self.graph_of(actor, name), b, k, number=self.number_of(actor, number)))

    def tie(self, actor, name, box, k, other):
        """Ties a place to another box."""
        b = self.number_of(actor, box)
        self.hold(actor, name, with_tie(self.graph_of(actor, name), b, k, to=self.number_of(actor, other)))

    def hang(self, actor, name, box, k, other):
        """Hangs the graph of another name into a place."""
        b = self.number_of(actor, box)
        self.hold(actor, name, with_graph(self.graph_of(actor, name), b, k, other=self.graph_of(actor, other)))


def end_of(reading):
    """How a reading stands: "done", "still" or "more"."""
    if not reading.is_still():
        return "more"
    return "done" if all(reading.at(actor) == END for actor in range(len(reading.code))) else "still"


def outcome(net, *, most=MOST_TURNS):
    """The tuple (end, weaving) of the actors that go round, each with one step in its turn."""
    reading = Reading(net)
    if not is_within(most, 0, MOST_TURNS):
        raise NoMost("the most steps are a whole number from 0 to 400")
    weaving = []
    while len(weaving) < most and not reading.is_still():
        for actor in range(len(reading.code)):
            if len(weaving) < most and reading.step(actor):
                weaving.append(actor)
    return (end_of(reading), tuple(weaving))
