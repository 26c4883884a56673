"""Papers, strikes and their like bent at one place, so that some of them are wrong."""

FAR = (-10 ** 30, -4, -1, 4, 7, 10 ** 30)

# Of each kind some papers that look like one of it.
OF_EACH_KIND = (
    (), (0,), (0, 1), (-1, 9), ("names", ()), ("names", (0, 1)), ("worths", (0,)), ("worths", (-7, 10 ** 30)),
    [], [()], [(0,)], [(0,), (), ()], [(-5, 0, 5), (0, 1), (2,)], ("late", ()), ("late", (0, 1)),
    ("first", 0, 1, ("late", (0, 1)), ("late", (1, 0))), ("first", -1, 10 ** 30, ("late", ()), ("late", (3,))),
)


def bent_tuples(some, numbers):
    """A tuple of whole numbers with one out, twice, another one or one more, and turned round."""
    yield from ((), some[::-1], some + some)
    for at in range(len(some)):
        yield some[:at] + some[at + 1:]
        yield some[:at + 1] + some[at:]
        yield some[:at]
        for number in numbers:
            yield some[:at] + (number,) + some[at + 1:]
    for number in numbers:
        yield (number,) + some
        yield some + (number,)


def bent_trees(tree, numbers):
    """A tree of 14, each of its splits and leaves bent, one at a time."""
    if tree[0] == "late":
        yield from (("late", some) for some in bent_tuples(tree[1], numbers))
        yield ("first", 0, 1, tree, tree)
        return
    i, j, one, other = tree[1:]
    yield from (one, other, ("first", j, i, one, other), ("first", i, j, other, one), ("first", j, i, other, one))
    yield from (("first", i, i, one, other), ("first", j, j, one, other), ("first", i, j, one, one))
    yield from (("first", i, j, tree, other), ("first", i, j, one, tree))
    for number in numbers:
        yield ("first", number, j, one, other)
        yield ("first", i, number, one, other)
    yield from (("first", i, j, bent, other) for bent in bent_trees(one, numbers))
    yield from (("first", i, j, one, bent) for bent in bent_trees(other, numbers))


def bent_lists(paper):
    """A list of tuples of whole numbers, shorter, longer, or one of its tuples bent."""
    yield from ([], paper[::-1], paper + [()], [()] + paper, [(0,)] + paper)
    for at, part in enumerate(paper):
        yield paper[:at] + paper[at + 1:]
        yield paper[:at + 1] + paper[at:]
        yield from (paper[:at] + [bent] + paper[at + 1:] for bent in bent_tuples(part, FAR + (0, 1, 2)))


def bent_papers(wish, paper):
    """A paper of the wish's kind, bent."""
    numbers = FAR + (0, 1, 2, 3)
    if wish[0] == "unlike":
        return list(bent_tuples(paper, numbers))
    if wish[0] == "many":
        other = {"names": "worths", "worths": "names"}[paper[0]]
        return [(paper[0], some) for some in bent_tuples(paper[1], numbers)] + [(other, paper[1])]
    if wish[0] == "hand":
        return list(bent_trees(paper, numbers))
    return list(bent_lists(paper))
