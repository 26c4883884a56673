"""The whole program: its parts tell the same of the same, however it is put."""

import itertools
import unittest

from wishstrike.desk import Desk
from wishstrike.fillings import first, how_many
from wishstrike.keeper import Keeper
from wishstrike.papers import can, is_paper, struck
from wishstrike.rounds import left_by, rounds
from wishstrike.texts import read_stand, read_wish, show_stand, show_wish
from wishstrike.trees import is_none, solve

from draws import Draw, drawn_knotted, drawn_with_wishes
from forms import pairs_text


def drawn_both(seed, many):
    return itertools.chain(drawn_with_wishes(seed, many), drawn_knotted(seed, many // 8))


def end(stand, wishes):
    """The stand that rounds leave, or None where they end."""
    left, strikes, name = rounds(stand, wishes)
    return left if name is None else None


class OtherNames:
    """Names in another order: name n is called order[n]."""

    def __init__(self, order):
        self.order = order

    def of_stand(self, stand):
        return stand and tuple(stand[self.order.index(name)] for name in range(len(stand)))

    def of_wish(self, wish):
        return (wish[0], tuple(self.order[name] for name in wish[1])) + wish[2:]

    def of_pairs(self, pairs):
        return sorted((self.order[name], worth) for name, worth in pairs)


class OtherWorths:
    """All worths moved by as much."""

    def __init__(self, by):
        self.by = by

    def of_stand(self, stand):
        return stand and tuple(tuple(worth + self.by for worth in worths) for worths in stand)

    def of_wish(self, wish):
        if wish[0] == "many":
            return wish[:2] + (tuple((worth + self.by, low, high) for worth, low, high in wish[2]),)
        if wish[0] == "sum":
            more = self.by * sum(wish[2])
            return wish[:3] + (wish[3] + more, wish[4] + more)
        if wish[0] == "row":
            return wish[:2] + (tuple((q, worth + self.by, p) for q, worth, p in wish[2]), wish[3])
        return wish

    def of_pairs(self, pairs):
        return [(name, worth + self.by) for name, worth in pairs]


def fits(stand, wishes, by):
    """Whether all that is moved stays within its bounds."""
    worths = [worth for worths in stand for worth in worths]
    for wish in wishes:
        if wish[0] == "many":
            worths += [bound[0] for bound in wish[2]]
        if wish[0] == "row":
            worths += [door[1] for door in wish[2]]
        if wish[0] == "sum" and not all(-99 <= number + by * sum(wish[2]) <= 99 for number in wish[3:]):
            return False
    return all(-9 <= worth + by <= 9 for worth in worths)


class Put(unittest.TestCase):
    def alike(self, stand, wishes, other):
        """All that is told of the stand and the wishes, and of them put otherwise."""
        other_stand, other_wishes = other.of_stand(stand), [other.of_wish(wish) for wish in wishes]
        self.assertEqual(end(other_stand, other_wishes), other.of_stand(end(stand, wishes)))
        self.assertEqual(how_many(other_stand, other_wishes), how_many(stand, wishes))
        self.assertEqual(solve(other_stand, other_wishes)[0], solve(stand, wishes)[0])
        for wish, other_wish in zip(wishes, other_wishes):
            self.assertEqual(can(other_stand, other_wish)[0], can(stand, wish)[0])
            self.assertEqual(struck(other_stand, other_wish), other.of_pairs(struck(stand, wish)))
        one, two = Keeper(stand, wishes), Keeper(other_stand, other_wishes)
        for name, worths in enumerate(stand):
            told = one.settle(name, worths[-1])
            settled, = other.of_pairs([(name, worths[-1])])
            self.assertEqual(two.settle(*settled), tuple(map(other.of_pairs, told)))
            self.assertEqual((two.stand(), two.ended()), (other.of_stand(one.stand()), one.ended()))
            self.assertEqual(two.settled(), other.of_pairs(one.settled()))

    def test_names_in_another_order(self):
        draw = Draw(51)
        for stand, wishes in drawn_both(51, 250):
            self.alike(stand, wishes, OtherNames(draw.some(range(len(stand)), len(stand))))

    def test_all_worths_moved(self):
        draw = Draw(52)
        moved = 0
        for stand, wishes in drawn_both(52, 400):
            by = draw.pick((-7, -3, -1, 1, 2, 6))
            if fits(stand, wishes, by):
                other = OtherWorths(by)
                self.alike(stand, wishes, other)
                filling = first(stand, wishes)
                self.assertEqual(first(other.of_stand(stand), [other.of_wish(wish) for wish in wishes]),
                                 filling and tuple(worth + by for worth in filling))
                moved += 1
        self.assertGreater(moved, 150)

    def test_two_stands_side_by_side(self):
        drawn = [(stand, wishes) for stand, wishes in drawn_with_wishes(53, 1500) if len(stand) < 4]
        together = 0
        for (stand, wishes), (other, other_wishes) in zip(drawn, drawn[1:]):
            if len(stand) + len(other) > 4 or len(wishes) + len(other_wishes) > 3:
                continue
            behind = OtherNames([name + len(stand) for name in range(len(other))])
            all_wishes = wishes + [behind.of_wish(wish) for wish in other_wishes]
            ends = end(stand, wishes), end(other, other_wishes)
            self.assertEqual(end(stand + other, all_wishes), None if None in ends else ends[0] + ends[1])
            self.assertEqual(how_many(stand + other, all_wishes), how_many(stand, wishes) * how_many(other, other_wishes))
            firsts = first(stand, wishes), first(other, other_wishes)
            self.assertEqual(first(stand + other, all_wishes), None if None in firsts else firsts[0] + firsts[1])
            together += 1
        self.assertGreater(together, 100)


class Agree(unittest.TestCase):
    def test_the_parts(self):
        for stand, wishes in drawn_both(54, 400):
            left, strikes, name = rounds(stand, wishes)
            keeper = Keeper(stand, wishes)
            self.assertEqual((keeper.stand(), keeper.ended()), (stand, True) if name is not None else (left, False))
            self.assertEqual(left_by(stand, wishes, strikes), left)
            told = solve(stand, wishes)
            self.assertEqual(told[0] == "filling", how_many(stand, wishes) > 0)
            if told[0] == "filling":
                self.assertEqual(told[1], first(stand, wishes))
                self.assertEqual(first(left, wishes), told[1])
            else:
                self.assertIsNone(first(stand, wishes))
                self.assertIs(is_none(stand, wishes, told[1]), True)
            if name is not None:
                self.assertIs(is_none(stand, wishes, ("struck", strikes)), True)
            for wish in wishes:
                answer, what = can(stand, wish)
                self.assertEqual(how_many(stand, [wish]) == 0, answer == "no")
                if answer == "no":
                    self.assertIs(is_paper(stand, wish, what), True)

    def test_texts_a_desk_and_a_keeper(self):
        draw = Draw(55)
        for stand, wishes in drawn_both(55, 250):
            stand_again, wishes_again = read_stand(show_stand(stand)), [read_wish(show_wish(wish)) for wish in wishes]
            self.assertEqual((stand_again, wishes_again), (stand, wishes))
            keeper, desk = Keeper(stand_again, wishes_again), Desk()
            for row in ["stand " + show_stand(stand)] + ["wish " + show_wish(wish) for wish in wishes]:
                self.assertEqual(desk.say(row), "ok")
            whole = stand
            self.same(desk, keeper, whole, wishes)
            for name in draw.some(range(len(stand)), len(stand)):
                worth = draw.pick(stand[name])
                self.assertEqual(desk.say(f"settle {name} {worth}"), " ".join(map(pairs_text, keeper.settle(name, worth))))
                whole = whole[:name] + ((worth,),) + whole[name + 1:]
                self.same(desk, keeper, whole, wishes)
            for name, worth in draw.some(keeper.settled(), len(stand)):
                self.assertEqual(desk.say(f"free {name}"), " ".join(map(pairs_text, keeper.free(name))))
                whole = whole[:name] + (stand[name],) + whole[name + 1:]
                self.same(desk, keeper, whole, wishes)

    def same(self, desk, keeper, whole, wishes):
        self.assertEqual(desk.say("now"), show_stand(keeper.stand()) + " ended" * keeper.ended())
        self.assertEqual(desk.say("count"), str(how_many(whole, wishes)))
        filling = first(whole, wishes)
        self.assertEqual(desk.say("first"), ",".join(map(str, filling)) if filling else "none")
        for number, wish in enumerate(wishes):
            self.assertEqual(desk.say(f"struck {number}"), pairs_text(struck(keeper.stand(), wish)))

    def test_the_same_again(self):
        for stand, wishes in drawn_both(56, 100):
            for call in (rounds, how_many, first, solve):
                self.assertEqual(call(stand, wishes), call(stand, list(wishes)))
            for wish in wishes:
                self.assertEqual((can(stand, wish), struck(stand, wish)), (can(stand, wish), struck(stand, wish)))


if __name__ == "__main__":
    unittest.main()
