"""Stands, wishes and fillings: what they are, and what is refused of them."""

from wishstrike.errors import NoName, NoStand, NoWish, NoWorth, TooMany
from wishstrike.kinds import are_names, are_rising, are_within, holds, is_number_of, is_of_its_kind, is_whole


def are_worths(thing):
    return are_within(thing, -9, 9) and 1 <= len(thing) <= 4 and are_rising(thing)


def is_stand(thing):
    if not isinstance(thing, tuple) or not 1 <= len(thing) <= 4:
        return False
    return all([are_worths(part) for part in thing])


def is_wish(thing):
    if not isinstance(thing, tuple) or len(thing) < 2:
        return False
    return are_names(thing[1]) and is_of_its_kind(thing)


# True equals 1, so that a truth would pass for a worth if it were looked up alone.
def has_worth(worths, thing):
    return is_whole(thing) and thing in worths


def is_filling(stand, thing):
    if not isinstance(thing, tuple) or len(thing) != len(stand):
        return False
    return all([has_worth(worths, part) for worths, part in zip(stand, thing)])


# A wish leaves the names that aren't its own free: any of their worths will do.
def filling_with(stand, chosen):
    return tuple([chosen.get(name, worths[0]) for name, worths in enumerate(stand)])


def fulfils(wish, filling):
    return holds(wish, [filling[name] for name in wish[1]])


def is_wish_of(stand, thing):
    return is_wish(thing) and all([name < len(stand) for name in thing[1]])


def need_stand(stand):
    if not is_stand(stand):
        raise NoStand("this is no stand")


def need_wish(stand, wish, number):
    if not is_wish_of(stand, wish):
        raise NoWish(number)


def need(stand, wish):
    need_stand(stand)
    need_wish(stand, wish, 0)


def need_kind(stand, wish, word):
    need(stand, wish)
    if wish[0] != word:
        raise NoWish(0)


def need_all(stand, wishes):
    need_stand(stand)
    for number, wish in enumerate(wishes):
        need_wish(stand, wish, number)
    if len(wishes) > 3:
        raise TooMany("there are more than three wishes")


def need_name(stand, name):
    if not is_number_of(name, stand):
        raise NoName("the stand has no such name")


def need_worth(stand, name, worth):
    need_name(stand, name)
    if not has_worth(stand[name], worth):
        raise NoWorth("the name has no such worth")


def settled(stand, name, worth):
    need_stand(stand)
    need_worth(stand, name, worth)
    return stand[:name] + ((worth,),) + stand[name + 1:]


def all_settled(stand, pairs):
    for name, worth in pairs:
        stand = settled(stand, name, worth)
    return stand
