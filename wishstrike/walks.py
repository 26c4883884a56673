"""Walks from 0, one step for each name of a wish: what sums and rows have in common.

Two functions are handed in: onward(wish, at, place, worth) tells the places to
which a worth of the name numbered at leads from a place, is_end(wish, place)
whether the wish is fulfilled by a walk that ends there.
"""

from wishstrike.kinds import are_rising
from wishstrike.things import filling_with


# Worths that lead there are kept with each place, so that at the end a filling is at hand.
def step_on(stand, wish, at, ways, onward):
    further = {}
    for place in ways:
        for worth in stand[wish[1][at]]:
            for reached in onward(wish, at, place, worth):
                further[reached] = ways[place] + (worth,)
    return further


def walk_can(stand, wish, onward, is_end):
    ways = {0: ()}
    paper = [(0,)]
    for at in range(len(wish[1])):
        ways = step_on(stand, wish, at, ways, onward)
        paper.append(tuple(sorted(ways)))
    for place in ways:
        if is_end(wish, place):
            return ("can", filling_with(stand, dict(zip(wish[1], ways[place]))))
    return ("no", paper)


def leads_within(stand, wish, at, paper, onward):
    for place in paper[at]:
        for worth in stand[wish[1][at]]:
            if not all([reached in paper[at + 1] for reached in onward(wish, at, place, worth)]):
                return False
    return True


def walk_paper(stand, wish, paper, onward, is_end):
    many = len(wish[1])
    if not isinstance(paper, list) or len(paper) != many + 1:
        return False
    if not all([are_rising(places) for places in paper]) or 0 not in paper[0]:
        return False
    if not all([leads_within(stand, wish, at, paper, onward) for at in range(many)]):
        return False
    return not any([is_end(wish, place) for place in paper[many]])
