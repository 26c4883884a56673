"""A row that a machine lets: a filling, or all the places that doors lead to, name by name."""

from wishstrike.things import need_kind
from wishstrike.walks import walk_can, walk_paper


def doors_onward(wish, at, place, worth):
    return [door[2] for door in wish[2] if door[0] == place and door[1] == worth]


def is_end_of_row(wish, place):
    return place in wish[3]


def row_can(stand, wish):
    need_kind(stand, wish, "row")
    return walk_can(stand, wish, doors_onward, is_end_of_row)


def row_paper(stand, wish, paper):
    need_kind(stand, wish, "row")
    return walk_paper(stand, wish, paper, doors_onward, is_end_of_row)
