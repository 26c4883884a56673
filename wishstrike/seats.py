"""Names seated at worths, some of which have only so many seats."""


def worths_of(stand, names):
    found = []
    for name in names:
        found.extend(stand[name])
    return sorted(set(found))


def seated_at(seats, worth):
    return [name for name in seats if seats[name] == worth]


def has_room(worth, highs, seats):
    return worth not in highs or len(seated_at(seats, worth)) < highs[worth]


def make_room(stand, worth, highs, seats, asked):
    seated = seated_at(seats, worth)
    for name in seated:
        if find_seat(stand, name, highs, seats, asked):
            return True
    return False


# A worth that was asked once is left out, since asking it again could only go
# round: so asked holds, where no seat is found, all worths that were in reach.
def find_seat(stand, name, highs, seats, asked):
    for worth in stand[name]:
        if worth in asked:
            continue
        asked[worth] = True
        if has_room(worth, highs, seats) or make_room(stand, worth, highs, seats, asked):
            seats[name] = worth
            return True
    return False


# Told are names that can't all be seated. Where one finds no seat, every worth
# asked is full, and those who sit there have no other worths: with this one
# they are one more than the seats.
def seat_all(stand, names, highs, seats):
    for name in names:
        asked = {}
        if not find_seat(stand, name, highs, seats, asked):
            return tuple(sorted([name] + [other for other in seats if seats[other] in asked]))
    return ()
