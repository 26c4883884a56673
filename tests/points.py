"""What the document's points say of fillings and papers, told without the program."""

import itertools


def unlike_by_7(worths):
    return not any(one == other for one, other in itertools.combinations(worths, 2))


def many_by_7(worths, bounds):
    for worth, low, high in bounds:
        stands_at = len([each for each in worths if each == worth])
        if stands_at < low or stands_at > high:
            return False
    return True


def sum_by_7(worths, weights, low, high):
    whole = 0
    for at in range(len(worths)):
        whole += worths[at] * weights[at]
    return whole in range(low, high + 1)


def way_leads(place, worths, doors, ends):
    if not worths:
        return place in ends
    onward = [p for q, worth, p in doors if (q, worth) == (place, worths[0])]
    return any(way_leads(p, worths[1:], doors, ends) for p in onward)


def row_by_7(worths, doors, ends):
    return way_leads(0, worths, doors, ends)


def hand_by_7(worths, lengths):
    works = list(zip(worths, lengths))
    return all(
        one[0] + one[1] <= other[0] or other[0] + other[1] <= one[0]
        for one, other in itertools.combinations(works, 2)
    )


BY_7 = {"unlike": unlike_by_7, "many": many_by_7, "sum": sum_by_7, "row": row_by_7, "hand": hand_by_7}


def fulfilling(stand, wish):
    """All fillings of the stand that fulfil the wish."""
    by_7 = BY_7[wish[0]]
    return [filling for filling in itertools.product(*stand)
            if by_7([filling[name] for name in wish[1]], *wish[2:])]


def are_whole(thing):
    return type(thing) is tuple and all(type(part) is int for part in thing)


def is_rising(thing):
    return list(thing) == sorted(set(thing))


def right_by_10(stand, wish, paper):
    if not are_whole(paper) or not is_rising(paper) or not paper or not set(paper) <= set(wish[1]):
        return False
    return len(set().union(*[stand[name] for name in paper])) < len(paper)


def right_by_11(stand, wish, paper):
    word, some = paper
    if not are_whole(some) or not is_rising(some) or not some:
        return False
    names, bounds = wish[1:]
    if word == "names":
        if not set(some) <= set(names):
            return False
        worths = set().union(*[stand[name] for name in some])
        if not worths <= {bound[0] for bound in bounds}:
            return False
        return sum(bound[2] for bound in bounds if bound[0] in worths) < len(some)
    if not set(some) <= {bound[0] for bound in bounds}:
        return False
    return sum(bound[1] for bound in bounds if bound[0] in some) > len([n for n in names if set(stand[n]) & set(some)])


def is_closed(stand, wish, paper, onward):
    """What 12 and 13 say alike, onward(at, m, worth) being all that m leads to by the worth."""
    if type(paper) is not list or not all(are_whole(part) and is_rising(part) for part in paper):
        return False
    if len(paper) != len(wish[1]) + 1 or 0 not in paper[0]:
        return False
    for at, name in enumerate(wish[1]):
        for m, worth in itertools.product(paper[at], stand[name]):
            if not set(onward(at, m, worth)) <= set(paper[at + 1]):
                return False
    return True


def right_by_12(stand, wish, paper):
    weights, low, high = wish[2:]
    return is_closed(stand, wish, paper, lambda at, m, worth: {m + worth * weights[at]}) and not [
        m for m in paper[-1] if low <= m <= high
    ]


def right_by_13(stand, wish, paper):
    doors, ends = wish[2:]
    return is_closed(stand, wish, paper, lambda at, q, worth: {door[2] for door in doors if door[:2] == (q, worth)}) \
        and not set(paper[-1]) & set(ends)
