"""What a wish of each kind is, and where the worths of its names fulfil it."""


def is_whole(thing):
    # Python counts True and False among its ints; here they are no numbers.
    return isinstance(thing, int) and not isinstance(thing, bool)


def is_within(thing, low, high):
    return is_whole(thing) and low <= thing <= high


# Below 0 Python would count from the end.
def is_number_of(thing, things):
    return is_within(thing, 0, len(things) - 1)


def are_within(thing, low, high):
    return isinstance(thing, tuple) and all([is_within(part, low, high) for part in thing])


def are_rising(things):
    return all([things[at - 1] < things[at] for at in range(1, len(things))])


def are_unlike(things):
    return len(set(things)) == len(things)


# The things are asked for ahead of the rising: what is none of them may not compare.
def are_some_of(thing, things):
    if not isinstance(thing, tuple) or len(thing) == 0:
        return False
    return all([part in things for part in thing]) and are_rising(thing)


def is_span(low, high, least, most):
    return is_within(low, least, most) and is_within(high, least, most) and low <= high


def are_names(thing):
    return are_within(thing, 0, 3) and 1 <= len(thing) <= 4 and are_unlike(thing)


def is_bound(thing):
    if not isinstance(thing, tuple) or len(thing) != 3:
        return False
    return is_within(thing[0], -9, 9) and is_span(thing[1], thing[2], 0, 4)


def are_bounds(thing):
    if not isinstance(thing, tuple) or len(thing) > 4:
        return False
    return all([is_bound(part) for part in thing]) and are_rising([part[0] for part in thing])


def is_door(thing):
    if not isinstance(thing, tuple) or len(thing) != 3:
        return False
    return is_within(thing[0], 0, 3) and is_within(thing[1], -9, 9) and is_within(thing[2], 0, 3)


def are_doors(thing):
    if not isinstance(thing, tuple) or len(thing) > 12:
        return False
    return all([is_door(part) for part in thing]) and are_unlike(thing)


def is_many(wish):
    return len(wish) == 3 and are_bounds(wish[2])


def is_sum(wish):
    if len(wish) != 5 or not are_within(wish[2], -3, 3):
        return False
    return len(wish[2]) == len(wish[1]) and is_span(wish[3], wish[4], -99, 99)


def is_row(wish):
    return len(wish) == 4 and are_doors(wish[2]) and are_within(wish[3], 0, 3) and are_rising(wish[3])


def is_hand(wish):
    return len(wish) == 3 and are_within(wish[2], 1, 4) and len(wish[2]) == len(wish[1])


# The names are looked over ahead of this: it hangs on them how many weights
# and lengths there are to be.
def is_of_its_kind(wish):
    word = wish[0]
    if word == "unlike":
        return len(wish) == 2
    if word == "many":
        return is_many(wish)
    if word == "sum":
        return is_sum(wish)
    if word == "row":
        return is_row(wish)
    return word == "hand" and is_hand(wish)


def many_holds(worths, bounds):
    return all([low <= worths.count(worth) <= high for worth, low, high in bounds])


def sum_holds(worths, weights, low, high):
    return low <= sum([worth * weight for worth, weight in zip(worths, weights)]) <= high


def row_holds(worths, doors, ends):
    reached = [0]
    for worth in worths:
        reached = [door[2] for door in doors if door[0] in reached and door[1] == worth]
    return any([place in ends for place in reached])


def are_apart(begin, length, other_begin, other_length):
    return begin + length <= other_begin or other_begin + other_length <= begin


def hand_holds(begins, lengths):
    for one in range(len(begins)):
        for other in range(one):
            if not are_apart(begins[one], lengths[one], begins[other], lengths[other]):
                return False
    return True


def holds(wish, worths):
    word = wish[0]
    if word == "unlike":
        return are_unlike(worths)
    if word == "many":
        return many_holds(worths, wish[2])
    if word == "sum":
        return sum_holds(worths, wish[2], wish[3], wish[4])
    if word == "row":
        return row_holds(worths, wish[2], wish[3])
    return hand_holds(worths, wish[2])
