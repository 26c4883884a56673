"""Papers, strikes and their like bent at one place, so that some of them are wrong."""

FAR = (-10 ** 30, -4, -1, 4, 7, 10 ** 30)

# Of each kind some papers that look like one of it.
OF_EACH_KIND = (
    (), (0,), (0, 1), (-1, 9), ("names", ()), ("names", (0, 1)), ("worths", (0,)), ("worths", (-7, 10 ** 30)),
    [], [()], [(0,)], [(0,), (), ()], [(-5, 0, 5), (0, 1), (2,)], ("late", ()), ("late", (0, 1)),
    ("first", 0, 1, ("late", (0, 1)), ("late", (1, 0))), ("first", -1, 10 ** 30, ("late", ()), ("late", (3,))),
)


def bent_tuples(some, numbers):
    """A tuple of whole numbers with one out, twice, another one or one more, and turned round."""
    yield from ((), some[::-1], some + some)
    for at in range(len(some)):
        yield some[:at] + some[at + 1:]
        yield some[:at + 1] + some[at:]
        yield some[:at]
        for number in numbers:
            yield some[:at] + (number,) + some[at + 1:]
    for number in numbers:
        yield (number,) + some
        yield some + (number,)


def bent_trees(tree, numbers):
    """A tree of 14, each of its splits and leaves bent, one at a time."""
    if tree[0] == "late":
        yield from (("late", some) for some in bent_tuples(tree[1], numbers))
        yield ("first", 0, 1, tree, tree)
        return
    i, j, one, other = tree[1:]
    yield from (one, other, ("first", j, i, one, other), ("first", i, j, other, one), ("first", j, i, other, one))
    yield from (("first", i, i, one, other), ("first", j, j, one, other), ("first", i, j, one, one))
    yield from (("first", i, j, tree, other), ("first", i, j, one, tree))
    for number in numbers:
        yield ("first", number, j, one, other)
        yield ("first", i, number, one, other)
    yield from (("first", i, j, bent, other) for bent in bent_trees(one, numbers))
    yield from (("first", i, j, one, bent) for bent in bent_trees(other, numbers))


def bent_lists(paper):
    """A list of tuples of whole numbers, shorter, longer, or one of its tuples bent."""
    yield from ([], paper[::-1], paper + [()], [()] + paper, [(0,)] + paper)
    for at, part in enumerate(paper):
        yield paper[:at] + paper[at + 1:]
        yield paper[:at + 1] + paper[at:]
        yield from (paper[:at] + [bent] + paper[at + 1:] for bent in bent_tuples(part, FAR + (0, 1, 2)))


def bent_papers(wish, paper):
    """A paper of the wish's kind, bent."""
    numbers = FAR + (0, 1, 2, 3)
    if wish[0] == "unlike":
        return list(bent_tuples(paper, numbers))
    if wish[0] == "many":
        other = {"names": "worths", "worths": "names"}[paper[0]]
        return [(paper[0], some) for some in bent_tuples(paper[1], numbers)] + [(other, paper[1])]
    if wish[0] == "hand":
        return list(bent_trees(paper, numbers))
    return list(bent_lists(paper))


def bent_strikes(wishes, strikes):
    """A list of strikes with one out, twice, exchanged with its neighbour, or otherwise."""
    yield from ([], strikes[::-1], strikes + strikes, strikes[1:])
    for at, strike in enumerate(strikes):
        ahead, behind = strikes[:at], strikes[at + 1:]
        yield ahead + behind
        yield ahead + [strike, strike] + behind
        yield strikes + [strike]
        if behind:
            yield ahead + [behind[0], strike] + behind[1:]
        number, name, worth, paper = strike
        for other in (0, 1, 2) + FAR:
            yield ahead + [(other, name, worth, paper)] + behind
            yield ahead + [(number, other, worth, paper)] + behind
            yield ahead + [(number, name, other, paper)] + behind
            yield ahead + [(number, other, other, paper)] + behind
        for other in OF_EACH_KIND + tuple(other[3] for other in strikes):
            yield ahead + [(number, name, worth, other)] + behind
        if 0 <= number < len(wishes):
            for bent in bent_papers(wishes[number], paper)[::7]:
                yield ahead + [(number, name, worth, bent)] + behind


def bent_nones(wishes, tree):
    """A tree of 18, each of its strikes, names and lists of trees bent, one at a time."""
    for bent in list(bent_strikes(wishes, tree[1]))[::11]:
        yield tree[:1] + (bent,) + tree[2:]
    if tree[0] == "struck":
        for name in (-1, 0, 1, 10 ** 30):
            yield ("settle", tree[1], name, [])
            yield ("settle", tree[1], name, [tree])
            yield ("settle", tree[1][:-1], name, [("struck", tree[1][-1:])])
        yield ("struck", tree[1][:-1])
        return
    word, strikes, name, trees = tree
    yield ("struck", strikes)
    for other in (0, 1, 2, 3) + FAR:
        yield (word, strikes, other, trees)
    yield from ((word, strikes, name, []), (word, strikes, name, trees[:-1]), (word, strikes, name, trees[1:]))
    yield from ((word, strikes, name, trees[::-1]), (word, strikes, name, trees + trees[-1:]))
    for at, below in enumerate(trees):
        ahead, behind = trees[:at], trees[at + 1:]
        yield (word, strikes, name, ahead + [below, below] + behind)
        yield (word, strikes, name, ahead + trees[:1] + behind)
        # One settle more changes nothing: the name has this worth alone there.
        yield (word, strikes, name, ahead + [("settle", [], name, [below])] + behind)
        yield (word, strikes, name, ahead + [("settle", [], name, [below, below])] + behind)
        for bent in bent_nones(wishes, below):
            yield (word, strikes, name, ahead + [bent] + behind)
