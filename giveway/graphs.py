"""Graphs: boxes of three places, and deeds that tell new ones."""

from giveway.errors import NoGraph, NoPlace
from giveway.kinds import is_tuple, is_within

MOST_BOXES = 8
MOST_IN_ALL = 24
MOST_DEEP = 4
PLACES = 3
GREATEST = 9999

NUMBER = 0
TIE = 1
GRAPH = 2
NOTHING = 3

BARE = ((0, 0, 0),)


def is_number(thing):
    """Whether it is a number that a place may hold."""
    return is_within(thing, -GREATEST, GREATEST)


def is_place(thing):
    """Whether it is the number of a place of a box."""
    return is_within(thing, 0, PLACES - 1)


def has_box(graph, b):
    """Whether the graph has a box of this number."""
    return is_within(b, 0, len(graph) - 1)


def is_tie(thing, graph):
    """Whether it is a tie to a box of the graph."""
    return is_tuple(thing, 2, 2) and thing[0] == "tie" and has_box(graph, thing[1])


def place_size(thing, graph, deep):
    """How many boxes lie within a place of the graph, with graphs at most so deep; None of what is no place."""
    if is_number(thing) or is_tie(thing, graph):
        return 0
    return graph_size(thing, deep)


def graph_size(thing, deep):
    """How many boxes it has in all; None of what is no graph, or a deeper one."""
    if deep == 0 or not is_tuple(thing, 1, MOST_BOXES):
        return None
    total = len(thing)
    for box in thing:
        if not is_tuple(box, PLACES, PLACES):
            return None
        for place in box:
            within = place_size(place, thing, deep - 1)
            if within is None:
                return None
            total += within
    return total if total <= MOST_IN_ALL else None


def is_graph(thing):
    """Whether it is a graph, of anything."""
    return graph_size(thing, MOST_DEEP) is not None


def check_graph(graph):
    """Refuses what is no graph."""
    if not is_graph(graph):
        raise NoGraph("no graph")


def check_place(k):
    """Refuses what is no place."""
    if not is_place(k):
        raise NoPlace("a place is 0, 1 or 2")


def boxes_in(graph):
    """How many boxes the graph has, those within it counted too."""
    check_graph(graph)
    return graph_size(graph, MOST_DEEP)


def sort_of(place):
    """The sort of what a place of a graph holds."""
    if not isinstance(place, tuple):
        return NUMBER
    return TIE if place[0] == "tie" else GRAPH


def depth_of(graph):
    """How deep the graph is: one, and one more than the deepest within it."""
    check_graph(graph)
    return 1 + max([depth_of(place) for box in graph for place in box if sort_of(place) == GRAPH], default=0)


def held(number):
    """The nearest number that a place may hold."""
    return max(-GREATEST, min(GREATEST, number))


def replaced(graph, b, k, place):
    """The graph with another thing at the place k of the box b."""
    box = graph[b]
    return graph[:b] + (box[:k] + (place,) + box[k + 1:],) + graph[b + 1:]


def can_grow(graph):
    """Whether a graph has room for one box more."""
    return len(graph) < MOST_BOXES and graph_size(graph, MOST_DEEP) < MOST_IN_ALL


def grown(graph):
    """The graph with one box of noughts more, where there is room; else itself."""
    check_graph(graph)
    return graph + BARE if can_grow(graph) else graph


def with_number(graph, b, k, *, number):
    """The graph with a number at the place, where there is such a box; else itself."""
    check_graph(graph)
    check_place(k)
    if not has_box(graph, b):
        return graph
    return replaced(graph, b, k, held(number))


def with_tie(graph, b, k, *, to):
    """The graph with a tie at the place, where there are such boxes; else itself."""
    check_graph(graph)
    check_place(k)
    if not has_box(graph, b) or not has_box(graph, to):
        return graph
    return replaced(graph, b, k, ("tie", to))


def can_hang(graph, b, k, other):
    """Whether a graph comes of it where another one is hung at the place."""
    return has_box(graph, b) and is_graph(replaced(graph, b, k, other))


def with_graph(graph, b, k, *, other):
    """The graph with another one at the place, where there is such a box and a graph comes of it; else itself."""
    check_graph(graph)
    check_place(k)
    check_graph(other)
    return replaced(graph, b, k, other) if can_hang(graph, b, k, other) else graph


def sort_at(graph, b, k):
    """0 of a number, 1 of a tie, 2 of a graph, 3 where there is no such box."""
    check_graph(graph)
    check_place(k)
    return sort_of(graph[b][k]) if has_box(graph, b) else NOTHING


def number_at(graph, b, k):
    """The number at the place, or that of the box to which it is tied; else 0."""
    sort = sort_at(graph, b, k)
    if sort == NUMBER:
        return graph[b][k]
    return graph[b][k][1] if sort == TIE else 0


def graph_at(graph, b, k):
    """The graph at the place; else the bare one."""
    return graph[b][k] if sort_at(graph, b, k) == GRAPH else BARE
