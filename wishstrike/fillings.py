"""The fillings that fulfil all wishes: how many, and the first."""

from wishstrike.things import fulfils, need_all


# Worths are rising, so the fillings come in Python's order of tuples.
def fillings_of(stand):
    found = [()]
    for worths in stand:
        longer = []
        for begun in found:
            longer.extend([begun + (worth,) for worth in worths])
        found = longer
    return found


def fulfils_all(wishes, filling):
    return all([fulfils(wish, filling) for wish in wishes])


def fulfilling(stand, wishes):
    return [filling for filling in fillings_of(stand) if fulfils_all(wishes, filling)]


def how_many(stand, wishes):
    need_all(stand, wishes)
    return len(fulfilling(stand, wishes))


def first(stand, wishes):
    need_all(stand, wishes)
    found = fulfilling(stand, wishes)
    return found[0] if found else None
