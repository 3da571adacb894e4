"""A second plain reading, written from the document alone, that shares nothing with the package.

Actors are generators that walk through their blocks; graphs are lists of boxes that are copied whole.
"""

import copy


def held(number):
    return min(9999, max(-9999, number))


def bare():
    return [[0, 0, 0]]


def is_inner(place):
    return isinstance(place, list)


def count(graph):
    return len(graph) + sum(count(place) for box in graph for place in box if is_inner(place))


def depth(graph):
    return 1 + max([depth(place) for box in graph for place in box if is_inner(place)], default=0)


def worth(graph):
    return tuple(tuple(worth(place) if is_inner(place) else place for place in box) for box in graph)


def size(block):
    return sum(1 + sum(size(part) for part in statement if isinstance(part, tuple)) for statement in block)


def walk(oracle, actor, block, first):
    """Yields (number, statement) for each step, and goes on behind it once the step is done."""
    number = first
    for statement in block:
        word = statement[0]
        if word == "if":
            yield number, statement
            if oracle.numbers[actor].get(statement[1], 0) != 0:
                yield from walk(oracle, actor, statement[2], number + 1)
            else:
                yield from walk(oracle, actor, statement[3], number + 1 + size(statement[2]))
        elif word == "while":
            yield number, statement
            while oracle.numbers[actor].get(statement[1], 0) != 0:
                yield from walk(oracle, actor, statement[2], number + 1)
                yield number, statement
        else:
            yield number, statement
        number += size((statement,))


class Oracle:
    def __init__(self, net):
        self.channels, self.actors = net
        self.numbers = [{} for _ in self.actors]
        self.graphs = [{} for _ in self.actors]
        self.tellings = [[] for _ in self.actors]
        self.queues = [[] for _ in self.channels]
        self.walks = [walk(self, actor, block, 0) for actor, block in enumerate(self.actors)]
        self.stands = [next(steps, None) for steps in self.walks]

    def at(self, actor):
        return -1 if self.stands[actor] is None else self.stands[actor][0]

    def waits(self, actor):
        if self.stands[actor] is None:
            return None
        statement = self.stands[actor][1]
        return statement[2] if statement[0] == "take" and not self.queues[statement[2]] else None

    def told(self, actor):
        return list(self.tellings[actor])

    def holds(self, actor, name):
        if name[0].islower():
            return self.numbers[actor].get(name, 0)
        return worth(self.graphs[actor].get(name, bare()))

    def channel(self, number):
        return [worth(graph) for graph in self.queues[number]]

    def is_still(self):
        return all(self.at(a) == -1 or self.waits(a) is not None for a in range(len(self.actors)))

    def step(self, actor):
        if self.at(actor) == -1 or self.waits(actor) is not None:
            return False
        statement = self.stands[actor][1]
        if statement[0] not in ("if", "while"):
            getattr(self, "do_" + statement[0])(actor, *statement[1:])
        self.stands[actor] = next(self.walks[actor], None)
        return True

    def weave(self, weaving):
        return tuple(actor for actor in weaving if self.step(actor))

    def number(self, actor, name):
        return self.numbers[actor].get(name, 0)

    def graph(self, actor, name):
        return self.graphs[actor].setdefault(name, bare())

    def box(self, actor, name, b):
        graph = self.graph(actor, name)
        at = self.number(actor, b)
        return graph[at] if 0 <= at < len(graph) else None

    def do_num(self, actor, a, n):
        self.numbers[actor][a] = n

    def do_sum(self, actor, a, b, op, c):
        left, right = self.number(actor, b), self.number(actor, c)
        self.numbers[actor][a] = {
            "+": held(left + right), "-": held(left - right), "*": held(left * right),
            "<": 1 if left < right else 0, "=": 1 if left == right else 0,
        }[op]

    def do_new(self, actor, g):
        self.graphs[actor][g] = bare()

    def do_let(self, actor, g, h):
        self.graphs[actor][g] = copy.deepcopy(self.graph(actor, h))

    def do_add(self, actor, g, a):
        graph = self.graph(actor, g)
        self.numbers[actor][a] = -1
        if len(graph) < 8 and count(graph) < 24:
            self.numbers[actor][a] = len(graph)
            graph.append([0, 0, 0])

    def do_put(self, actor, g, b, k, c):
        box = self.box(actor, g, b)
        if box is not None:
            box[k] = self.number(actor, c)

    def do_tie(self, actor, g, b, k, c):
        box, other = self.box(actor, g, b), self.box(actor, g, c)
        if box is not None and other is not None:
            box[k] = ("tie", self.number(actor, c))

    def do_hang(self, actor, g, b, k, h):
        box = self.box(actor, g, b)
        if box is not None:
            was = box[k]
            box[k] = copy.deepcopy(self.graph(actor, h))
            if count(self.graph(actor, g)) > 24 or depth(self.graph(actor, g)) > 4:
                box[k] = was

    def do_get(self, actor, a, g, b, k):
        box = self.box(actor, g, b)
        place = 0 if box is None or is_inner(box[k]) else box[k]
        self.numbers[actor][a] = place[1] if isinstance(place, tuple) else place

    def do_sort(self, actor, a, g, b, k):
        box = self.box(actor, g, b)
        if box is None:
            self.numbers[actor][a] = 3
        else:
            self.numbers[actor][a] = 2 if is_inner(box[k]) else 1 if isinstance(box[k], tuple) else 0

    def do_pick(self, actor, g, h, b, k):
        box = self.box(actor, h, b)
        self.graphs[actor][g] = copy.deepcopy(box[k]) if box is not None and is_inner(box[k]) else bare()

    def do_send(self, actor, m, g):
        self.queues[m].append(copy.deepcopy(self.graph(actor, g)))

    def do_take(self, actor, g, m):
        self.graphs[actor][g] = self.queues[m].pop(0)

    def do_tell(self, actor, a):
        self.tellings[actor].append(self.number(actor, a))

    def do_show(self, actor, g):
        self.tellings[actor].append(worth(self.graph(actor, g)))
