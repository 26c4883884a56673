"""What the document's points say of fillings and papers, told without the program."""

import itertools


def unlike_by_7(worths):
    return not any(one == other for one, other in itertools.combinations(worths, 2))


def many_by_7(worths, bounds):
    for worth, low, high in bounds:
        stands_at = len([each for each in worths if each == worth])
        if stands_at < low or stands_at > high:
            return False
    return True


def sum_by_7(worths, weights, low, high):
    whole = 0
    for at in range(len(worths)):
        whole += worths[at] * weights[at]
    return whole in range(low, high + 1)


def way_leads(place, worths, doors, ends):
    if not worths:
        return place in ends
    onward = [p for q, worth, p in doors if (q, worth) == (place, worths[0])]
    return any(way_leads(p, worths[1:], doors, ends) for p in onward)


def row_by_7(worths, doors, ends):
    return way_leads(0, worths, doors, ends)


def hand_by_7(worths, lengths):
    works = list(zip(worths, lengths))
    return all(
        one[0] + one[1] <= other[0] or other[0] + other[1] <= one[0]
        for one, other in itertools.combinations(works, 2)
    )


BY_7 = {"unlike": unlike_by_7, "many": many_by_7, "sum": sum_by_7, "row": row_by_7, "hand": hand_by_7}


def fulfilling(stand, wish):
    """All fillings of the stand that fulfil the wish."""
    by_7 = BY_7[wish[0]]
    return [filling for filling in itertools.product(*stand)
            if by_7([filling[name] for name in wish[1]], *wish[2:])]


def are_whole(thing):
    return type(thing) is tuple and all(type(part) is int for part in thing)


def is_rising(thing):
    return list(thing) == sorted(set(thing))


def right_by_10(stand, wish, paper):
    if not are_whole(paper) or not is_rising(paper) or not paper or not set(paper) <= set(wish[1]):
        return False
    return len(set().union(*[stand[name] for name in paper])) < len(paper)


def right_by_11(stand, wish, paper):
    word, some = paper
    if not are_whole(some) or not is_rising(some) or not some:
        return False
    names, bounds = wish[1:]
    if word == "names":
        if not set(some) <= set(names):
            return False
        worths = set().union(*[stand[name] for name in some])
        if not worths <= {bound[0] for bound in bounds}:
            return False
        return sum(bound[2] for bound in bounds if bound[0] in worths) < len(some)
    if not set(some) <= {bound[0] for bound in bounds}:
        return False
    return sum(bound[1] for bound in bounds if bound[0] in some) > len([n for n in names if set(stand[n]) & set(some)])


def is_closed(stand, wish, paper, onward):
    """What 12 and 13 say alike, onward(at, m, worth) being all that m leads to by the worth."""
    if type(paper) is not list or not all(are_whole(part) and is_rising(part) for part in paper):
        return False
    if len(paper) != len(wish[1]) + 1 or 0 not in paper[0]:
        return False
    for at, name in enumerate(wish[1]):
        for m, worth in itertools.product(paper[at], stand[name]):
            if not set(onward(at, m, worth)) <= set(paper[at + 1]):
                return False
    return True


def right_by_12(stand, wish, paper):
    weights, low, high = wish[2:]
    return is_closed(stand, wish, paper, lambda at, m, worth: {m + worth * weights[at]}) and not [
        m for m in paper[-1] if low <= m <= high
    ]


def right_by_13(stand, wish, paper):
    doors, ends = wish[2:]
    return is_closed(stand, wish, paper, lambda at, q, worth: {door[2] for door in doors if door[:2] == (q, worth)}) \
        and not set(paper[-1]) & set(ends)


def is_tree(thing):
    if type(thing) is not tuple or not thing:
        return False
    if thing[0] == "late":
        return len(thing) == 2 and are_whole(thing[1])
    return thing[0] == "first" and len(thing) == 5 and are_whole(thing[1:3]) and is_tree(thing[3]) and is_tree(thing[4])


def is_late(stand, wish, some):
    lengths = dict(zip(*wish[1:]))
    begin = min(stand[some[0]])
    for one, other in zip(some, some[1:]):
        not_below = {worth for worth in stand[other] if worth >= begin + lengths[one]}
        if not not_below:
            return True
        begin = min(not_below)
    return False


def right_by_14(stand, wish, tree, told=frozenset()):
    names = set(wish[1])
    if tree[0] == "first":
        i, j, one, other = tree[1:]
        return names >= {i, j} and i != j and right_by_14(stand, wish, one, told | {(i, j)}) \
            and right_by_14(stand, wish, other, told | {(j, i)})
    some = tree[1]
    return len(some) >= 2 and set(some) <= names and len(set(some)) == len(some) \
        and set(zip(some, some[1:])) <= told and is_late(stand, wish, some)


def are_tuples(thing):
    return type(thing) is list and all(map(are_whole, thing))


def is_word_with_some(thing):
    return type(thing) is tuple and len(thing) == 2 and thing[0] in ("names", "worths") and are_whole(thing[1])


# Of each kind what a paper of it is at all, and where it is right.
PAPERS = {
    "unlike": (are_whole, right_by_10),
    "many": (is_word_with_some, right_by_11),
    "sum": (are_tuples, right_by_12),
    "row": (are_tuples, right_by_13),
    "hand": (is_tree, right_by_14),
}


def is_right(stand, wish, paper):
    is_form, right = PAPERS[wish[0]]
    return is_form(paper) and right(stand, wish, paper)


def settled_by_8(stand, name, worth):
    return tuple((worth,) if at == name else worths for at, worths in enumerate(stand))


def struck_by_8(stand, wish):
    """All pairs of the stand's names, the wish's or not, that are struck, rising."""
    given = {(name, worth) for filling in fulfilling(stand, wish) for name, worth in enumerate(filling)}
    return sorted({(name, worth) for name, worths in enumerate(stand) for worth in worths} - given)


def done_by_15(stand, wishes, strikes):
    """The stand that is left and the name that ended it, or None; None where one of them is no strike."""
    ended = None
    for number, name, worth, paper in strikes:
        if ended is not None or number not in range(len(wishes)) or name not in range(len(stand)):
            return None
        if worth not in stand[name] or not is_right(settled_by_8(stand, name, worth), wishes[number], paper):
            return None
        if stand[name] == (worth,):
            ended = name
        else:
            stand = tuple(tuple(each for each in worths if (at, each) != (name, worth))
                          for at, worths in enumerate(stand))
    return stand, ended


def end_by_16(stand, wishes):
    """The stand that is left where no name's last worth is taken, else None."""
    while True:
        gone = {pair for wish in wishes for pair in struck_by_8(stand, wish)}
        left = tuple(tuple(worth for worth in worths if (name, worth) not in gone)
                     for name, worths in enumerate(stand))
        if () in left:
            return None
        if left == stand:
            return stand
        stand = left


def fulfilling_all(stand, wishes):
    """The fillings that fulfil all, in Python's order."""
    return sorted(filling for filling in itertools.product(*stand)
                  if all(BY_7[wish[0]]([filling[name] for name in wish[1]], *wish[2:]) for wish in wishes))


def none_by_18(stand, wishes, tree):
    done = done_by_15(stand, wishes, tree[1])
    if done is None:
        return False
    left, ended = done
    if tree[0] == "struck":
        return ended is not None
    name, trees = tree[2:]
    if ended is not None or name not in range(len(left)) or len(trees) != len(left[name]):
        return False
    return all(none_by_18(settled_by_8(left, name, worth), wishes, below) for worth, below in zip(left[name], trees))


def kept_by_19(stand, wishes, order):
    """The stand that a keeper tells and whether it ended, names settled by the pairs of the order."""
    for name, worth in order:
        stand = settled_by_8(stand, name, worth)
    left = end_by_16(stand, wishes)
    return (stand, True) if left is None else (left, False)


def pairs_of(stand):
    return {(name, worth) for name, worths in enumerate(stand) for worth in worths}


def all_within(things, low, high):
    return all(number in range(low, high + 1) for number in things)


def stand_by_4(lists):
    return 1 <= len(lists) <= 4 and all(
        1 <= len(worths) <= 4 and is_rising(worths) and all_within(worths, -9, 9) for worths in lists
    )


def is_wish_by_5(word, names, *things):
    """Of whole numbers, and of tuples of them, as many as the word asks for."""
    if not 1 <= len(names) <= 4 or len(set(names)) != len(names) or not all_within(names, 0, 3):
        return False
    if word == "unlike":
        return True
    if word == "many":
        bounds = things[0]
        return len(bounds) <= 4 and is_rising([bound[0] for bound in bounds]) and len(bounds) == len(
            [b for b in bounds if len(b) == 3 and -9 <= b[0] <= 9 and 0 <= b[1] <= b[2] <= 4])
    if word == "sum":
        weights, low, high = things
        return len(weights) == len(names) and all_within(weights, -3, 3) and -99 <= low <= high <= 99
    if word == "row":
        doors, ends = things
        return len(doors) <= 12 and len(set(doors)) == len(doors) and is_rising(ends) and all_within(ends, 0, 3) and all(
            len(door) == 3 and all_within(door[::2], 0, 3) and all_within(door[1:2], -9, 9) for door in doors)
    return len(things[0]) == len(names) and all_within(things[0], 1, 4)
