"""Strikes, one by one, and the rounds in which wishes together strike all they can."""

from wishstrike.kinds import is_number_of
from wishstrike.papers import can, is_paper
from wishstrike.things import has_worth, need_all, settled


def without(stand, name, worth):
    left = tuple([other for other in stand[name] if other != worth])
    return stand[:name] + (left,) + stand[name + 1:]


def is_strike(stand, wishes, strike):
    number = strike[0]
    name = strike[1]
    if not is_number_of(number, wishes) or not is_number_of(name, stand) or not has_worth(stand[name], strike[2]):
        return False
    return is_paper(settled(stand, name, strike[2]), wishes[number], strike[3])


# Told is (stand, name) as rounds tell them, or None where one is no strike or stands
# behind the end: a stand alone would not show whether the last strike ended it.
def done(stand, wishes, strikes):
    ended = None
    for strike in strikes:
        if ended is not None or not is_strike(stand, wishes, strike):
            return None
        name = strike[1]
        if len(stand[name]) == 1:
            ended = name
        else:
            stand = without(stand, name, strike[2])
    return (stand, ended)


def left_by(stand, wishes, strikes):
    need_all(stand, wishes)
    end = done(stand, wishes, strikes)
    return None if end is None else end[0]


def asked_in_a_round(stand, wishes):
    asked = []
    for number, wish in enumerate(wishes):
        for name in wish[1]:
            asked.extend([(number, name, worth) for worth in stand[name]])
    return asked


# Another wish may have struck the worth in this very round.
def strikes_at(stand, wishes, number, name, worth):
    if worth not in stand[name]:
        return []
    told = can(settled(stand, name, worth), wishes[number])
    return [(number, name, worth, told[1])] if told[0] == "no" else []


def one_round(stand, wishes):
    strikes = []
    asked = asked_in_a_round(stand, wishes)
    for number, name, worth in asked:
        found = strikes_at(stand, wishes, number, name, worth)
        strikes.extend(found)
        if found and len(stand[name]) == 1:
            return (stand, strikes, name)
        if found:
            stand = without(stand, name, worth)
    return (stand, strikes, None)


# Names that aren't a wish's own are not asked: one of theirs is struck only where the
# wish can't be at all, and then its own names' worths are struck to the end anyway.
def rounds(stand, wishes):
    need_all(stand, wishes)
    strikes = []
    while True:
        told = one_round(stand, wishes)
        stand = told[0]
        strikes.extend(told[1])
        if not told[1] or told[2] is not None:
            return (stand, strikes, told[2])
