"""Heaps: graphs at addresses, one within another by its address."""

from giveway.charts import paper
from giveway.graphs import GRAPH, sort_of
from giveway.kinds import is_tuple, is_whole


def is_address(thing):
    """Whether it has the form of an address, of anything."""
    return is_tuple(thing, 2, 2) and all(is_whole(part) for part in thing)


def is_inner(place):
    """Whether a place of a heap's box holds the address of a graph within."""
    return isinstance(place, tuple) and place[0] == "at"


def straight_within(boxes):
    """The addresses that the boxes hold, by boxes and places."""
    return [place[1] for box in boxes for place in box if is_inner(place)]


def all_within(heap, address):
    """The address and all within it, the outer ahead of the inner ones."""
    found = [address]
    for inner in straight_within(heap[address]):
        found.extend(all_within(heap, inner))
    return found


def worth_of(heap, place):
    """What a place of a heap's box is in a graph."""
    return graph_from(heap, place[1]) if is_inner(place) else place


def graph_from(heap, address):
    """The graph that lies at the address."""
    return tuple(tuple(worth_of(heap, place) for place in box) for box in heap[address])


def lay(pages, graph, maker, first):
    """Adds the boxes of a graph to the pages, the outer ahead of the inner ones; tells its address.

    The pages have the addresses of the maker from the number first on.
    """
    page = len(pages)
    pages.append(())
    boxes = []
    for box in graph:
        places = []
        for place in box:
            is_graph_within = sort_of(place) == GRAPH
            places.append(("at", lay(pages, place, maker, first)) if is_graph_within else place)
        boxes.append(tuple(places))
    pages[page] = tuple(boxes)
    return (maker, first + page)


def case_of_heap(heap, roots):
    """The tuple (addresses, chart, starts) of a heap whose roots are held by names or lie in channels."""
    addresses = tuple(sorted(heap))
    points = {address: point for point, address in enumerate(addresses)}
    chart = tuple(
        tuple(sorted([points[inner] for inner in straight_within(heap[address])])) for address in addresses
    )
    return (addresses, chart, tuple(sorted([points[root] for root in roots])))


def paper_in(case, address):
    """The paper that an address of a heap is kept, a way, or free, a bar."""
    addresses, chart, starts = case
    return paper(chart, starts, (addresses.index(address),))


def kept_in(case):
    """The points of the addresses of a heap that are kept: the bar of the fewest points."""
    return paper(case[1], case[2], ())[1]
