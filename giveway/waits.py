"""Who waits for whom: the waiting chart of a net, and the knot of a run that is still."""

from giveway.charts import rounds
from giveway.code import flat
from giveway.errors import NotStill


def senders_to(channels, rows):
    """The rising tuple of the senders of the channels from which the rows take."""
    return tuple(sorted({channels[deed[2]][0] for deed, nexts in rows if deed[0] == "take"}))


def waiting_chart(net):
    """The chart of the actors, whose nexts are the senders of the channels from which they take."""
    code = flat(net)
    return tuple(senders_to(net[0], rows) for rows in code)


def rounds_of(net):
    """The ring or the ranks of the waiting chart of a net."""
    return rounds(waiting_chart(net))


def waitings_of(run):
    """For each actor that waits, as they rise, the sender for which it waits."""
    waitings = {}
    for actor in range(len(run.code)):
        m = run.waits(actor)
        if m is not None:
            waitings[actor] = run.channels[m][0]
    return waitings


def walk_from(waitings, actor):
    """The actors to which one comes by waitings, this one first, till one doesn't wait or one would come twice."""
    walk = [actor]
    while walk[-1] in waitings and waitings[walk[-1]] not in walk:
        walk.append(waitings[walk[-1]])
    return walk


def knot(run):
    """("knot", knot) with the least actor first, or ("open", ends); refuses a run that is not still."""
    if not run.is_still():
        raise NotStill("an actor can do a step")
    waitings = waitings_of(run)
    for actor in waitings:
        walk = walk_from(waitings, actor)
        if waitings.get(walk[-1]) == actor:
            return ("knot", tuple(walk))
    return ("open", tuple((actor, walk_from(waitings, actor)[-1]) for actor in waitings))
