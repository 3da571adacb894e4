"""Things of all kinds that tests hand in."""

GREAT = 10 ** 30 - 1


def nested(made, depth):
    """A thing of so many shells."""
    thing = made(None)
    for _ in range(depth - 1):
        thing = made(thing)
    return thing


def box_deep(thing):
    return ((0, 0, 0 if thing is None else thing),)


# None of these is right in any place of a chart, a graph, a net, or beside them.
NEVER = (
    None,
    True,
    False,
    GREAT,
    -GREAT,
    "?!",
    "",
    "Ab c",
    [],
    [0],
    {},
    {0: 0},
    (None,),
    (True,),
    ("?!",),
    ([],),
    ({},),
    (-1,),
    (GREAT,),
)

# What "of anything" reaches to.
ANYTHING = NEVER + (
    0,
    1,
    -1,
    3,
    (),
    (0,),
    (0, 1),
    ((),),
    ((), ()),
    "num",
    "tie",
    "a" * 8000,
    " \t\n~",
    ("tie", 0),
    (((0, 0, 0),),),
    [[0, 0, 0]],
    ((0, 0, 0),),
    ((), ((),)),
    ("way", (0,)),
    {"num": ("a", 1)},
    {(0, 1): [()], None: {}},
    list(range(9_999)),
    tuple(range(9_999)),
    ((),) * 9_999,
    ((0,),) * 4_999,
    {n: n for n in range(4_999)},
    nested(lambda thing: [thing], 20),
    nested(lambda thing: (thing,), 20),
    nested(lambda thing: {"a": thing}, 20),
    nested(box_deep, 10),
    nested(lambda thing: (("if", "a", thing, ()),), 10),
    nested(lambda thing: ("while", "a", thing), 20),
)


def spoiled(thing, never=NEVER):
    """The tuple with one part, at whatever depth, made wrong; each tuple in it made a list, too."""
    yield list(thing)
    for k, part in enumerate(thing):
        for other in never:
            yield thing[:k] + (other,) + thing[k + 1:]
        if isinstance(part, tuple):
            for other in spoiled(part, never):
                yield thing[:k] + (other,) + thing[k + 1:]


def is_plain(thing):
    """Whether it is built of tuples, texts and whole numbers alone, so that nobody can change it."""
    if isinstance(thing, tuple):
        return all(is_plain(part) for part in thing)
    return type(thing) in (int, str)
