"""A weighed sum within bounds: a filling, or all the sums that there can be, name by name."""

from wishstrike.things import need_kind
from wishstrike.walks import walk_can, walk_paper


def sums_onward(wish, at, place, worth):
    return [place + worth * wish[2][at]]


def is_sum_asked(wish, place):
    return wish[3] <= place <= wish[4]


def sum_can(stand, wish):
    need_kind(stand, wish, "sum")
    return walk_can(stand, wish, sums_onward, is_sum_asked)


def sum_paper(stand, wish, paper):
    need_kind(stand, wish, "sum")
    return walk_paper(stand, wish, paper, sums_onward, is_sum_asked)
