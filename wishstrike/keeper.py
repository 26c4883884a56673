"""A kept stand: names are settled and freed, and behind each the wishes strike anew."""

from wishstrike.errors import Free, Settled
from wishstrike.rounds import rounds
from wishstrike.things import all_settled, need_name, need_worth


def pairs_of(stand):
    pairs = []
    for name, worths in enumerate(stand):
        pairs.extend([(name, worth) for worth in worths])
    return pairs


def pairs_gone(ahead, behind):
    still = pairs_of(behind)
    return [pair for pair in pairs_of(ahead) if pair not in still]


class Keeper:
    def __init__(self, stand, wishes):
        self.begun = stand
        # A copy: the asker's list may be changed behind the call.
        self.asked = list(wishes)
        # The worth of each settled name; a dict keeps the order in which they came.
        self.chosen = {}
        self.left = stand
        self.over = False
        self.strike_anew()

    def stand(self):
        return self.left

    def ended(self):
        return self.over

    def settled(self):
        return sorted(self.chosen.items())

    def wishes(self):
        return list(self.asked)

    def settled_stand(self):
        return all_settled(self.begun, list(self.chosen.items()))

    def strike_anew(self):
        ahead = self.left
        whole = self.settled_stand()
        told = rounds(whole, self.asked)
        self.over = told[2] is not None
        self.left = whole if self.over else told[0]
        return (pairs_gone(ahead, self.left), pairs_gone(self.left, ahead))

    def settle(self, name, worth):
        need_worth(self.begun, name, worth)
        if name in self.chosen:
            raise Settled("the name is settled already")
        self.chosen[name] = worth
        return self.strike_anew()

    def free(self, name):
        need_name(self.begun, name)
        if name not in self.chosen:
            raise Free("the name is not settled")
        self.chosen.pop(name)
        return self.strike_anew()

    # Another one, so that where the wish is refused this one stays as it is.
    def with_wish(self, wish):
        other = Keeper(self.begun, self.asked + [wish])
        for name, worth in list(self.chosen.items()):
            other.settle(name, worth)
        return other
