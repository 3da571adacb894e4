"""Charts: a way or a bar, a ring or ranks."""

from giveway.errors import NoChart, NoPoints
from giveway.kinds import is_whole, is_within


def are_points(thing, many):
    """Whether it is a rising tuple of whole numbers from 0 on, below many."""
    if not isinstance(thing, tuple):
        return False
    least = 0
    for point in thing:
        if not is_within(point, least, many - 1):
            return False
        least = point + 1
    return True


def is_chart(thing):
    """Whether it is a chart, of anything."""
    return isinstance(thing, tuple) and all(are_points(nexts, len(thing)) for nexts in thing)


def check_chart(chart):
    """Refuses what is no chart."""
    if not is_chart(chart):
        raise NoChart("no chart")


def check_case(chart, starts, goals):
    """Refuses what is no chart with starts and goals, the first of them that is wrong."""
    check_chart(chart)
    if not are_points(starts, len(chart)):
        raise NoPoints("the starts are no points of the chart")
    if not are_points(goals, len(chart)):
        raise NoPoints("the goals are no points of the chart")


def is_walk(chart, thing):
    """Whether it is a tuple of one or more points, each a next of the one ahead."""
    if not isinstance(thing, tuple) or not thing:
        return False
    if not all(is_within(point, 0, len(chart) - 1) for point in thing):
        return False
    links = {(point, after): True for point in range(len(chart)) for after in chart[point]}
    return all((thing[k], thing[k + 1]) in links for k in range(len(thing) - 1))


def is_way(chart, starts, goals, thing):
    """Whether it is a way from a start to a goal, of anything."""
    check_case(chart, starts, goals)
    return is_walk(chart, thing) and thing[0] in starts and thing[-1] in goals


def is_bar(chart, starts, goals, thing):
    """Whether it is a bar around the starts, with no goal in it, of anything."""
    check_case(chart, starts, goals)
    if not are_points(thing, len(chart)):
        return False
    inside = {point: True for point in thing}
    return (
        all(start in inside for start in starts)
        and all(after in inside for point in thing for after in chart[point])
        and not any(goal in inside for goal in goals)
    )


def befores_of(chart):
    """For each point the points of which it is a next."""
    befores = [[] for nexts in chart]
    for point, nexts in enumerate(chart):
        for after in nexts:
            befores[after].append(point)
    return befores


def distances(links, origins, least, most):
    """How many links lead to each point that is come to from the origins by at most so many.

    Points below least are not come to.
    """
    far = {point: 0 for point in origins}
    edge = list(origins)
    steps = 0
    while edge and steps < most:
        steps += 1
        fresh = []
        for point in edge:
            for other in links[point]:
                if other >= least and other not in far:
                    far[other] = steps
                    fresh.append(other)
        edge = fresh
    return far


def nearest(points, far):
    """The least of the rising points with the fewest steps to go; None where none has any."""
    best = None
    for point in points:
        if point in far and (best is None or far[point] < far[best]):
            best = point
    return best


def shortest(chart, far, point):
    """The walk from the point to where no steps are left, the least of those with fewest points."""
    walk = [point]
    while far[point] > 0:
        point = nearest(chart[point], far)
        walk.append(point)
    return tuple(walk)


def paper(chart, starts, goals):
    """("way", way) with the least of the shortest ways, or ("bar", bar) with the smallest bar."""
    check_case(chart, starts, goals)
    # Steps are counted from the goals, so that each step of the way can be the least one that comes nearer.
    far = distances(befores_of(chart), goals, 0, len(chart))
    start = nearest(starts, far)
    if start is None:
        return ("bar", tuple(sorted(distances(chart, starts, 0, len(chart)))))
    return ("way", shortest(chart, far, start))


def least_ranks(chart):
    """The least number from 0 on for each point, greater than those of its nexts; None where there is a ring."""
    befores = befores_of(chart)
    ranks = [0 for nexts in chart]
    unranked = [len(nexts) for nexts in chart]
    edge = [point for point in range(len(chart)) if not chart[point]]
    many = 0
    rank = 0
    while edge:
        many += len(edge)
        rank += 1
        fresh = []
        for point in edge:
            for before in befores[point]:
                unranked[before] -= 1
                if unranked[before] == 0:
                    ranks[before] = rank
                    fresh.append(before)
        edge = fresh
    return tuple(ranks) if many == len(chart) else None


def least_ring(chart):
    """The ring of the fewest points, of several the least; None where there is none."""
    befores = befores_of(chart)
    ring = None
    fewest = len(chart) + 1
    # The least ring begins with its least point, so from each point on only greater ones are looked at.
    for point in range(len(chart)):
        far = distances(befores, (point,), point, fewest - 2)
        after = nearest(chart[point], far)
        if after is not None and far[after] + 1 < fewest:
            ring = (point,) + shortest(chart, far, after)[:-1]
            fewest = len(ring)
    return ring


def rounds(chart):
    """("ring", ring) with the least of the shortest rings, or ("ranks", ranks) with the least ranks."""
    check_chart(chart)
    ranks = least_ranks(chart)
    if ranks is None:
        return ("ring", least_ring(chart))
    return ("ranks", ranks)


def is_ring(chart, thing):
    """Whether it is a ring of the chart, of anything."""
    check_chart(chart)
    return is_walk(chart, thing) and len(set(thing)) == len(thing) and thing[0] in chart[thing[-1]]


def are_ranks(chart, thing):
    """Whether it is ranks of the chart, of anything."""
    check_chart(chart)
    if not isinstance(thing, tuple) or len(thing) != len(chart):
        return False
    if not all(is_whole(rank) for rank in thing):
        return False
    return all(thing[point] > thing[after] for point in range(len(chart)) for after in chart[point])
