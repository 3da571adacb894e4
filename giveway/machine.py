"""The machine: flat code over heaps, in which graphs are copied or given away."""

from giveway.charts import are_points
from giveway.code import check_code
from giveway.errors import NoAddress, NoDeed, NoName, Unsafe
from giveway.graphs import BARE, GRAPH, boxes_in, can_grow, can_hang, graph_at, has_box, replaced, sort_at
from giveway.heaps import all_within, case_of_heap, graph_from, is_address, kept_in, lay, paper_in
from giveway.kinds import is_tuple
from giveway.moves import least, unsafe
from giveway.nets import is_graph_name, is_number_name
from giveway.runs import Run, check_name, check_turns


def check_safe(code):
    """Refuses code of which some giving isn't safe."""
    for actor, rows in enumerate(code):
        shown = unsafe(rows)
        if shown is not None:
            raise Unsafe(actor, shown[0], shown[1])


def chosen_code(net, code):
    """The code that is handed in, where it is safe; the least code of the net's own where none is."""
    if code is None:
        return least(net)
    check_code(net, code)
    check_safe(code)
    return code


def graph_names_of(rows):
    """The graph-names of flat code, as they rise."""
    return sorted({part for deed, nexts in rows for part in deed if is_graph_name(part)})


class Machine(Run):
    """A machine for a net and safe code of it; its names and channels hold addresses of graphs."""

    def __init__(self, net, *, code=None):
        chosen = chosen_code(net, code)
        super().__init__(net[0], chosen)
        self.journal = []
        self.marks = []
        self.heaps = [{} for rows in chosen]
        self.made = {actor: 0 for actor in range(len(chosen))}
        self.counts = {"copied": 0, "steps": 0}
        self.graph_names = [graph_names_of(rows) for rows in chosen]
        for actor in range(len(chosen)):
            for name in self.graph_names[actor]:
                self.hold(actor, name, self.make(actor, BARE, actor))

    def step(self, actor):
        """Does the next step of an actor, where it can; tells whether it did."""
        mark = len(self.journal)
        if not self.do_step(actor):
            return False
        self.add_to("steps", 1)
        self.marks.append(mark)
        return True

    def weave(self, weaving):
        """Does a step of each actor in turn; tells the tuple of those that did one."""
        self.check_weaving(weaving)
        return tuple([actor for actor in weaving if self.step(actor)])

    def at(self, actor):
        """The number of the row at which an actor stands, -1 at its end."""
        return self.place_of(actor)

    def waits(self, actor):
        """The number of the channel for which an actor waits; None where it doesn't."""
        return self.awaited(actor)

    def told(self, actor):
        """The list of what an actor has told, graphs as worths."""
        return self.told_by(actor)

    def holds(self, actor, name):
        """The number or graph that a name of an actor holds; None of an empty one."""
        self.check_actor(actor)
        check_name(name)
        if is_number_name(name):
            return self.number_of(actor, name)
        if name not in self.graph_names[actor]:
            return BARE
        return self.graph_of(actor, name) if name in self.names[actor] else None

    def channel(self, number):
        """The list of the graphs that lie in a channel."""
        self.check_channel(number)
        heap = self.heaps[self.taker_of(number)]
        return [graph_from(heap, address) for address in self.lying(number)]

    def is_still(self):
        """Whether no actor can do a step."""
        return self.none_can_step()

    def address(self, actor, name):
        """The address that a graph-name holds; None of an empty one, and of one that the code doesn't have."""
        self.check_actor(actor)
        if not is_graph_name(name):
            raise NoName("no graph-name")
        return self.names[actor].get(name)

    def heap(self, actor):
        """The rising list of the addresses in the heap of an actor."""
        self.check_actor(actor)
        return sorted(self.heaps[actor])

    def boxes(self, address):
        """The boxes at an address, those within it as addresses."""
        return self.heaps[self.owner(address)][address]

    def owner(self, address):
        """The actor in whose heap an address is."""
        if is_address(address):
            for actor, heap in enumerate(self.heaps):
                if address in heap:
                    return actor
        raise NoAddress("no address in a heap")

    def copied(self):
        """How many boxes were copied so far."""
        return self.counts["copied"]

    def steps(self):
        """How many steps were done."""
        return self.counts["steps"]

    def back(self):
        """Undoes the last step or collecting that stands."""
        if not self.marks:
            raise NoDeed("no deed is left")
        mark = self.marks.pop()
        while len(self.journal) > mark:
            table, key, worth = self.journal.pop()
            super().write(table, key, worth)

    def trial(self, weaving):
        """Tells what weave would, and leaves all as it was."""
        check_turns(weaving)
        # A step is never refused, so whether all are actors can be asked ahead of the first turn.
        for actor in weaving:
            self.check_actor(actor)
        done = self.weave(weaving)
        for actor in done:
            self.back()
        return done

    def heap_case(self, actor):
        """The tuple (addresses, chart, starts) of the heap of an actor."""
        self.check_actor(actor)
        return case_of_heap(self.heaps[actor], self.roots_of(actor))

    def paper(self, actor, address):
        """The paper whether an address of an actor's heap is kept or free."""
        self.check_actor(actor)
        if not is_address(address) or address not in self.heaps[actor]:
            raise NoAddress("no address in the heap of the actor")
        return paper_in(self.heap_case(actor), address)

    def collect(self, actor):
        """Takes the free addresses out of the heap of an actor; tells the rising list of them."""
        case = self.heap_case(actor)
        kept = {point: True for point in kept_in(case)}
        free = [address for point, address in enumerate(case[0]) if point not in kept]
        self.marks.append(len(self.journal))
        for address in free:
            self.write(self.heaps[actor], address, None)
        return free

    def apart(self):
        """The tuple that shows that all is apart: for each actor the places of the kept addresses."""
        return tuple(kept_in(self.heap_case(actor)) for actor in range(len(self.heaps)))

    def is_apart(self, thing):
        """Whether it shows that all is apart, of anything."""
        if not is_tuple(thing, len(self.heaps), len(self.heaps)):
            return False
        # Truths would pass for numbers where tuples are compared.
        if not all(are_points(bar, len(heap)) for bar, heap in zip(thing, self.heaps)):
            return False
        return thing == self.apart()

    def write(self, table, key, worth):
        """Writes, and keeps what was there, so that it can be undone."""
        self.journal.append((table, key, table.get(key)))
        super().write(table, key, worth)

    def add_to(self, count, many):
        """Counts so many more."""
        self.write(self.counts, count, self.counts[count] + many)

    def taker_of(self, m):
        """The actor that takes from a channel."""
        return self.channels[m][1]

    def roots_of(self, actor):
        """The addresses that the names of an actor hold, and those that lie in the channels to it."""
        roots = list(self.names[actor].values())
        for m in range(len(self.channels)):
            if self.taker_of(m) == actor:
                roots.extend(self.lying(m))
        return roots

    def graph_of(self, actor, name):
        """The graph that a name holds which isn't empty."""
        return graph_from(self.heaps[actor], self.names[actor][name])

    def boxes_of(self, actor, name):
        """The boxes of what a name holds which isn't empty."""
        return self.heaps[actor][self.names[actor][name]]

    def do_graph(self, actor, deed):
        """Does a deed that changes a graph or hands one on."""
        match deed:
            case ("new", name):
                self.hold(actor, name, self.make(actor, BARE, actor))
            case ("let", name, other, way):
                self.hold(actor, name, self.handed(actor, other, way, actor))
            case ("add", name, number):
                self.add_box(actor, name, number)
            case ("put", name, box, k, number):
                self.set_place(actor, name, self.number_of(actor, box), k, self.number_of(actor, number))
            case ("tie", name, box, k, other):
                self.tie_to(actor, name, self.number_of(actor, box), k, self.number_of(actor, other))
            case ("hang", name, box, k, other, way):
                self.hang_on(actor, name, self.number_of(actor, box), k, other, way)
            case ("pick", name, other, box, k, way):
                self.hold(actor, name, self.picked(actor, other, self.number_of(actor, box), k, way))
            case ("send", m, name, way):
                self.push(m, self.handed(actor, name, way, self.taker_of(m)))

    def make(self, maker, graph, home):
        """Lays a graph into the heap of home, at new addresses of the maker; tells its address."""
        pages = []
        first = self.made[maker]
        address = lay(pages, graph, maker, first)
        for page, boxes in enumerate(pages):
            self.write(self.heaps[home], (maker, first + page), boxes)
        self.write(self.made, maker, first + len(pages))
        return address

    def make_copy(self, maker, graph, home):
        """As make, of a graph that lies at an address already."""
        self.add_to("copied", boxes_in(graph))
        return self.make(maker, graph, home)

    def handed(self, actor, name, way, home):
        """The address of what a name hands on into the heap of home: a copy, or the very one."""
        if way == "copy":
            return self.make_copy(actor, self.graph_of(actor, name), home)
        address = self.names[actor][name]
        self.hold(actor, name, None)
        if home != actor:
            self.move(address, actor, home)
        return address

    def move(self, address, actor, home):
        """Moves an address and all within it from an actor's heap into that of home."""
        heap = self.heaps[actor]
        addresses = all_within(heap, address)
        for inner in addresses:
            self.write(self.heaps[home], inner, heap[inner])
            self.write(heap, inner, None)

    def set_place(self, actor, name, b, k, place):
        """Lets a place hold another thing, where there is such a box."""
        boxes = self.boxes_of(actor, name)
        if has_box(boxes, b):
            self.write(self.heaps[actor], self.names[actor][name], replaced(boxes, b, k, place))

    def add_box(self, actor, name, number):
        """Adds a box, where there is room, and lets a number-name hold its number, or -1."""
        boxes = self.boxes_of(actor, name)
        if not can_grow(self.graph_of(actor, name)):
            self.set_number(actor, number, -1)
            return
        self.set_number(actor, number, len(boxes))
        self.write(self.heaps[actor], self.names[actor][name], boxes + BARE)

    def tie_to(self, actor, name, b, k, to):
        """Ties a place to a box, where there is such a one."""
        if has_box(self.boxes_of(actor, name), to):
            self.set_place(actor, name, b, k, ("tie", to))

    def hang_on(self, actor, name, b, k, other, way):
        """Hangs what another name hands on into a place, where a graph comes of it."""
        if can_hang(self.graph_of(actor, name), b, k, self.graph_of(actor, other)):
            self.set_place(actor, name, b, k, ("at", self.handed(actor, other, way, actor)))
        elif way == "give":
            self.hold(actor, other, None)

    def picked(self, actor, name, b, k, way):
        """The address of what is picked from a name: a copy, the very one, or a bare graph's."""
        graph = self.graph_of(actor, name)
        if sort_at(graph, b, k) != GRAPH:
            address = self.make(actor, BARE, actor)
        elif way == "copy":
            address = self.make_copy(actor, graph_at(graph, b, k), actor)
        else:
            address = self.boxes_of(actor, name)[b][k][1]
            self.set_place(actor, name, b, k, 0)
        if way == "give":
            self.hold(actor, name, None)
        return address
