"""The first filling that fulfils all wishes, or a tree of strikes by which none does."""

from wishstrike.fillings import first
from wishstrike.kinds import is_number_of
from wishstrike.rounds import done, rounds
from wishstrike.things import need_all, settled


# There is one where rounds don't end and yet none fulfils all: if each name were left
# one worth, these would fulfil every wish, since none of them struck one.
def name_of_several(stand):
    several = [name for name, worths in enumerate(stand) if len(worths) > 1]
    return several[0]


def tree_of_none(stand, wishes):
    told = rounds(stand, wishes)
    if told[2] is not None:
        return ("struck", told[1])
    left = told[0]
    name = name_of_several(left)
    trees = [tree_of_none(settled(left, name, worth), wishes) for worth in left[name]]
    return ("settle", told[1], name, trees)


def solve(stand, wishes):
    need_all(stand, wishes)
    filling = first(stand, wishes)
    if filling is not None:
        return ("filling", filling)
    return ("none", tree_of_none(stand, wishes))


def are_right_below(stand, wishes, name, trees):
    if not is_number_of(name, stand) or len(trees) != len(stand[name]):
        return False
    pairs = list(zip(stand[name], trees))
    return all([is_right_tree(settled(stand, name, worth), wishes, tree) for worth, tree in pairs])


def is_right_tree(stand, wishes, tree):
    end = done(stand, wishes, tree[1])
    if end is None:
        return False
    if tree[0] == "struck":
        return end[1] is not None
    return end[1] is None and are_right_below(end[0], wishes, tree[2], tree[3])


def is_none(stand, wishes, tree):
    need_all(stand, wishes)
    return is_right_tree(stand, wishes, tree)
