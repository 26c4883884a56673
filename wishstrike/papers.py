"""What can be, papers and struck worths of a wish of any kind."""

from wishstrike.hands import hand_can, hand_paper
from wishstrike.lines import row_can, row_paper
from wishstrike.many import many_can, many_paper
from wishstrike.sums import sum_can, sum_paper
from wishstrike.things import need, settled
from wishstrike.unlike import unlike_can, unlike_paper


def can(stand, wish):
    need(stand, wish)
    word = wish[0]
    if word == "unlike":
        return unlike_can(stand, wish)
    if word == "many":
        return many_can(stand, wish)
    if word == "sum":
        return sum_can(stand, wish)
    if word == "row":
        return row_can(stand, wish)
    return hand_can(stand, wish)


def is_paper(stand, wish, paper):
    need(stand, wish)
    word = wish[0]
    if word == "unlike":
        return unlike_paper(stand, wish, paper)
    if word == "many":
        return many_paper(stand, wish, paper)
    if word == "sum":
        return sum_paper(stand, wish, paper)
    if word == "row":
        return row_paper(stand, wish, paper)
    return hand_paper(stand, wish, paper)


def is_struck(stand, wish, name, worth):
    return can(settled(stand, name, worth), wish)[0] == "no"


def struck(stand, wish):
    need(stand, wish)
    pairs = []
    for name in sorted(wish[1]):
        pairs.extend([(name, worth) for worth in stand[name] if is_struck(stand, wish, name, worth)])
    return pairs
