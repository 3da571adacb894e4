"""Weavings: which are full or whole, and the exchanges by which one becomes another."""

from giveway.errors import NotFull, NoWeaving
from giveway.kinds import is_within
from giveway.reading import Reading

MOST_NUMBERS = 40


def begun(net, *weavings):
    """A reading of the net at its begin; refuses what is no net, and each weaving that is none here."""
    reading = Reading(net)
    for weaving in weavings:
        reading.check_weaving(weaving)
        if len(weaving) > MOST_NUMBERS:
            raise NoWeaving("a weaving has at most forty numbers here")
    return reading


def is_full(net, weaving):
    """Whether each actor of the weaving does a step in its turn."""
    return len(begun(net, weaving).weave(weaving)) == len(weaving)


def is_whole(net, weaving):
    """Whether the reading is still behind the weaving."""
    reading = begun(net, weaving)
    reading.weave(weaving)
    return reading.is_still()


def check_full(net, one, other):
    """Refuses what is no net, what is no weaving, and weavings of which one isn't full."""
    begun(net, one, other)
    if not is_full(net, one) or not is_full(net, other):
        raise NotFull("a weaving isn't full")


def steps_of(weaving):
    """For each number of a weaving the step that is done: (actor, n), from 0 on for each actor."""
    done = {actor: 0 for actor in weaving}
    steps = []
    for actor in weaving:
        steps.append((actor, done[actor]))
        done[actor] += 1
    return steps


def turned(row, p):
    """The row with what stands at p and p + 1 turned about."""
    return row[:p] + [row[p + 1], row[p]] + row[p + 2:]


def first_fall(ranks):
    """The least p at which the ranks fall; None where they rise."""
    for p in range(len(ranks) - 1):
        if ranks[p] > ranks[p + 1]:
            return p
    return None


def exchanges(net, one, other):
    """A row of exchanges, as few as can be, from one full weaving to another; None where there is none."""
    check_full(net, one, other)
    if sorted(one) != sorted(other):
        return None
    places = {step: place for place, step in enumerate(steps_of(other))}
    ranks = [places[step] for step in steps_of(one)]
    row = []
    # Two steps that stand side by side one way here, the other way there, need one another in neither,
    # so whatever is turned about so stays full.
    p = first_fall(ranks)
    while p is not None:
        row.append(p)
        ranks = turned(ranks, p)
        p = first_fall(ranks)
    return row


def sendings(net, weaving):
    """For each step of a full weaving that takes, the step that sent what it takes."""
    reading = Reading(net)
    sent = [[] for channel in net[0]]
    needs = {}
    for step in steps_of(weaving):
        actor = step[0]
        match reading.code[actor][reading.at(actor)][0]:
            case ("send", m, _, _):
                sent[m].append(step)
            case ("take", _, m):
                needs[step] = sent[m].pop(0)
        reading.step(actor)
    return needs


def can_turn(steps, p, needs):
    """Whether there is an exchange at p, of anything, of a full weaving with these steps."""
    if not is_within(p, 0, len(steps) - 2):
        return False
    # The one behind can go ahead unless it takes what the one ahead of it sends.
    return steps[p][0] != steps[p + 1][0] and needs.get(steps[p + 1]) != steps[p]


def leads(net, one, other, thing):
    """Whether it is a row of exchanges by which one full weaving becomes the other, of anything."""
    check_full(net, one, other)
    if not isinstance(thing, list):
        return False
    needs = sendings(net, one)
    steps = steps_of(one)
    for p in thing:
        if not can_turn(steps, p, needs):
            return False
        steps = turned(steps, p)
    return [actor for actor, n in steps] == list(other)
