"""So many of each worth: a filling, or names too many or worths too often asked for."""

from wishstrike.kinds import are_some_of
from wishstrike.seats import seat_all, seated_at, worths_of
from wishstrike.things import filling_with, need_kind


def lows_of(bounds):
    return dict([(worth, low) for worth, low, high in bounds])


def highs_of(bounds):
    return dict([(worth, high) for worth, low, high in bounds])


def can_spare(worth, lows, seats):
    return len(seated_at(seats, worth)) > lows.get(worth, 0)


def bring_one(stand, worth, lows, seats, asked):
    asked[worth] = True
    for name in list(seats):
        place = seats[name]
        if worth not in stand[name] or place in asked:
            continue
        if can_spare(place, lows, seats) or bring_one(stand, place, lows, seats, asked):
            seats[name] = worth
            return True
    return False


# Told are worths whose lows can't all be met. Where none can be brought, all names
# that have one of the worths asked sit at these already, and none of the worths
# has more than its low there, the one to be filled up fewer.
def fill_up(stand, lows, seats):
    for worth in lows:
        while len(seated_at(seats, worth)) < lows[worth]:
            asked = {}
            if not bring_one(stand, worth, lows, seats, asked):
                return tuple(sorted(asked))
    return ()


def many_can(stand, wish):
    need_kind(stand, wish, "many")
    seats = {}
    crowd = seat_all(stand, wish[1], highs_of(wish[2]), seats)
    if crowd:
        return ("no", ("names", crowd))
    short = fill_up(stand, lows_of(wish[2]), seats)
    if short:
        return ("no", ("worths", short))
    return ("can", filling_with(stand, seats))


def are_too_many(stand, names, highs):
    worths = worths_of(stand, names)
    if not all([worth in highs for worth in worths]):
        return False
    return sum([highs[worth] for worth in worths]) < len(names)


def has_one_of(stand, name, worths):
    return any([worth in worths for worth in stand[name]])


def are_too_short(stand, names, worths, lows):
    havers = [name for name in names if has_one_of(stand, name, worths)]
    return sum([lows[worth] for worth in worths]) > len(havers)


def many_paper(stand, wish, paper):
    need_kind(stand, wish, "many")
    if not isinstance(paper, tuple) or len(paper) != 2:
        return False
    some = paper[1]
    if paper[0] == "names":
        return are_some_of(some, wish[1]) and are_too_many(stand, some, highs_of(wish[2]))
    lows = lows_of(wish[2])
    return paper[0] == "worths" and are_some_of(some, list(lows)) and are_too_short(stand, wish[1], some, lows)
