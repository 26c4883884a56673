"""Works one behind the other on one hand: a filling, or a tree by which each order comes too late."""

from wishstrike.kinds import are_unlike
from wishstrike.things import filling_with, need_kind


def lengths_of(wish):
    return dict(zip(wish[1], wish[2]))


# Each begins as soon as it may, since a later begin leaves those behind it no more room.
def begins_in(stand, lengths, order):
    begins = {}
    free_from = stand[order[0]][0]
    for name in order:
        in_time = [worth for worth in stand[name] if worth >= free_from]
        if not in_time:
            return None
        begins[name] = in_time[0]
        free_from = in_time[0] + lengths[name]
    return begins


def told_of_order(stand, lengths, order, left):
    begins = begins_in(stand, lengths, order)
    if begins is None:
        return ("no", ("late", order))
    if not left:
        return ("can", filling_with(stand, begins))
    return told_of_places(stand, lengths, order, len(order), left)


# The first one that is left comes ahead of all in the order from the place on: each
# step asks of one more, so that of neighbours in an order it is always told who is ahead.
def told_of_places(stand, lengths, order, place, left):
    name = left[0]
    here = told_of_order(stand, lengths, order[:place] + (name,) + order[place:], left[1:])
    if here[0] == "can" or place == 0:
        return here
    sooner = told_of_places(stand, lengths, order, place - 1, left)
    if sooner[0] == "can":
        return sooner
    return ("no", ("first", order[place - 1], name, here[1], sooner[1]))


def hand_can(stand, wish):
    need_kind(stand, wish, "hand")
    return told_of_order(stand, lengths_of(wish), wish[1][:1], wish[1][1:])


def is_right_leaf(stand, wish, some, told):
    if not isinstance(some, tuple) or len(some) < 2 or not are_unlike(some):
        return False
    if not all([name in wish[1] for name in some]):
        return False
    if not all([pair in told for pair in zip(some, some[1:])]):
        return False
    return begins_in(stand, lengths_of(wish), some) is None


def is_right_split(stand, wish, tree, told):
    one = tree[1]
    other = tree[2]
    if one == other or one not in wish[1] or other not in wish[1]:
        return False
    if not is_right_tree(stand, wish, tree[3], told + [(one, other)]):
        return False
    return is_right_tree(stand, wish, tree[4], told + [(other, one)])


def is_right_tree(stand, wish, tree, told):
    if not isinstance(tree, tuple):
        return False
    if len(tree) == 2 and tree[0] == "late":
        return is_right_leaf(stand, wish, tree[1], told)
    return len(tree) == 5 and tree[0] == "first" and is_right_split(stand, wish, tree, told)


def hand_paper(stand, wish, paper):
    need_kind(stand, wish, "hand")
    return is_right_tree(stand, wish, paper, [])
