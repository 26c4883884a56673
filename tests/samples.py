"""Right things, and ways of making wrong ones of them."""

STANDS = (
    ((0,),),
    ((-9,),),
    ((9,),),
    ((-9, 9),),
    ((1, 2, 3, 4),),
    ((0, 1), (1, 2)),
    ((0,), (0,), (0,)),
    ((-2, 0, 1), (1,), (-1, 3)),
    ((-9, -8, 8, 9), (0, 1, 2, 3), (-1, 0, 1, 2), (4, 5, 6, 7)),
)

TWELVE_DOORS = tuple((q, worth, 3 - q) for q in range(4) for worth in (-9, 0, 9))

WISHES = (
    ("unlike", (0,)),
    ("unlike", (3,)),
    ("unlike", (1, 0)),
    ("unlike", (3, 1, 0, 2)),
    ("many", (0,), ()),
    ("many", (2, 0), ((1, 0, 1),)),
    ("many", (0, 1, 2, 3), ((-9, 0, 0), (-1, 0, 4), (0, 4, 4), (9, 2, 3))),
    ("sum", (0,), (0,), 0, 0),
    ("sum", (1, 0), (-3, 3), -99, 99),
    ("sum", (0, 1, 2, 3), (1, 2, -1, 0), 99, 99),
    ("sum", (2, 3), (1, 1), -99, -99),
    ("row", (0,), (), ()),
    ("row", (1, 2), ((0, 5, 1), (0, 5, 2), (1, 5, 3)), (3,)),
    ("row", (3, 0, 1, 2), TWELVE_DOORS, (0, 1, 2, 3)),
    ("row", (0,), ((3, 0, 3), (0, 0, 0)), (0, 3)),
    ("hand", (0,), (1,)),
    ("hand", (2, 1), (4, 1)),
    ("hand", (0, 1, 2, 3), (1, 2, 3, 4)),
)

# None of these is right in the place of any part of a stand or a wish.
NEVER = (
    None, True, False, "", "unlike ", "a", "0", "\t\n", 10 ** 30, -1000, 1000, [], [0], [(0,)], (None,), (True,),
    (False,), ("",), ([],), ((), ()), ((((0,),),),), ([[[[None]]]],), (0, 0), ((0, 0),),
)

# A stand, a wish of it, one that isn't of it for its names, and what is no stand or wish at all.
STAND = ((0, 1), (1, 2, 3))
OURS = ("unlike", (0, 1))
BEYOND = ("unlike", (0, 2))
NO_STANDS = ((), ((),), ((1, 0),), [(0, 1)], ([0, 1],), ((True,),), ((10,),), ((0,),) * 5, None, True, "", 0)
NO_WISHES = (None, True, 0, "unlike", (), ("unlike",), ["unlike", (0,)], ("unlike", ()), ("unlike", (True,)),
             ("unlike", (0, 0)), ("sum", (0,), (1,), 1, 0), ("hand", (0, 1), (1,)))


def places(thing):
    """The ways to each part of a thing, its own (the empty one) first."""
    found = [()]
    if isinstance(thing, tuple):
        for at, part in enumerate(thing):
            found += [(at,) + way for way in places(part)]
    return found


def part_at(thing, way):
    for at in way:
        thing = thing[at]
    return thing


def put(thing, way, part):
    """The thing with this part at the way's end."""
    if not way:
        return part
    at = way[0]
    return thing[:at] + (put(thing[at], way[1:], part),) + thing[at + 1:]


def never_right(thing):
    """The thing with each of its parts made wrong, one at a time."""
    for way in places(thing):
        part = part_at(thing, way)
        for wrong in NEVER:
            # (0, 0) is right where a wish has two weights; ((0, 0),) never.
            if wrong != (0, 0) or not isinstance(part, tuple) or len(part) != 2:
                yield put(thing, way, wrong)
        if isinstance(part, tuple):
            yield put(thing, way, list(part))
        elif isinstance(part, int):
            yield put(thing, way, (part,))
            yield put(thing, way, [part])
            yield put(thing, way, str(part))
