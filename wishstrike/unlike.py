"""All unlike: a filling, or names that have too few worths together."""

from wishstrike.kinds import are_some_of
from wishstrike.seats import seat_all, worths_of
from wishstrike.things import filling_with, need_kind


def unlike_can(stand, wish):
    need_kind(stand, wish, "unlike")
    highs = dict([(worth, 1) for worth in worths_of(stand, wish[1])])
    seats = {}
    crowd = seat_all(stand, wish[1], highs, seats)
    if crowd:
        return ("no", crowd)
    return ("can", filling_with(stand, seats))


def unlike_paper(stand, wish, paper):
    need_kind(stand, wish, "unlike")
    return are_some_of(paper, wish[1]) and len(worths_of(stand, paper)) < len(paper)
