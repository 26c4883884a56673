import copy
import itertools
import unittest

from wishstrike.rounds import left_by, rounds
from wishstrike.things import is_stand

from bends import OF_EACH_KIND, bent_strikes
from draws import drawn_with_wishes
from points import done_by_15, end_by_16, fulfilling_all, struck_by_8

# Two wishes that strike by turns: 0 takes 1 from the others, the sum then takes from 3, and so on.
BY_TURNS = ((0,), (0, 1), (1, 2), (0, 2, 3))
TURNS = [("unlike", (0, 1, 2)), ("sum", (2, 3), (1, 1), 2, 2)]


class Rounds(unittest.TestCase):
    def told(self, stand, wishes):
        """What is told of the stand and the wishes, held against the points."""
        told = rounds(stand, wishes)
        self.assertIs(type(told), tuple)
        left, strikes, name = told
        self.assertIs(type(strikes), list)
        self.assertTrue(all(type(strike) is tuple and len(strike) == 4 for strike in strikes))
        self.assertTrue(is_stand(left))
        self.assertEqual(done_by_15(stand, wishes, strikes), (left, name), (stand, wishes))
        self.assertIs(type(name), int if end_by_16(stand, wishes) is None else type(None), (stand, wishes))
        if name is None:
            self.assertEqual(left, end_by_16(stand, wishes))
            self.assertEqual([struck_by_8(left, wish) for wish in wishes], [[]] * len(wishes))
        else:
            self.assertEqual(strikes[-1][1], name)
            self.assertEqual(left[name], (strikes[-1][2],))
        return told

    def test_drawn(self):
        came_up = {}
        for stand, wishes in drawn_with_wishes(1, 1500):
            left, strikes, name = self.told(stand, wishes)
            self.assertEqual(fulfilling_all(stand, wishes), [] if name is not None else fulfilling_all(left, wishes))
            key = (len(wishes), name is None, bool(strikes))
            came_up[key] = came_up.get(key, 0) + 1
        for many in (1, 2, 3):
            for end in ((True, True), (True, False), (False, True)):
                self.assertGreater(came_up[(many,) + end], 20, came_up)

    def test_every_order(self):
        for stand, wishes in drawn_with_wishes(2, 500):
            ends = set()
            for order in itertools.permutations(wishes):
                left, strikes, name = self.told(stand, list(order))
                ends.add(left if name is None else None)
            self.assertEqual(len(ends), 1, (stand, wishes))

    def test_no_wishes(self):
        for stand in (((0,),), ((-9, 9), (1, 2, 3, 4)), ((0, 1),) * 4):
            self.assertEqual(rounds(stand, []), (stand, [], None))

    def test_one_wish(self):
        self.assertEqual(rounds(((0,), (0, 1)), [("unlike", (0, 1))]), (((0,), (1,)), [(0, 1, 0, (0, 1))], None))
        self.assertEqual(self.told(((0, 1), (0, 1)), [("unlike", (0, 1))]), (((0, 1), (0, 1)), [], None))

    def test_by_turns(self):
        for wishes in (TURNS, TURNS[::-1], TURNS + TURNS[:1]):
            left, strikes, name = self.told(BY_TURNS, wishes)
            self.assertEqual(left, ((0,), (1,), (2,), (0,)))
            self.assertIsNone(name)
            self.assertEqual({strike[1:3] for strike in strikes}, {(1, 0), (2, 1), (3, 2), (3, 3)})

    def test_a_wish_that_can_not_be_at_all(self):
        for wish in (("row", (1,), (), (0,)), ("sum", (1, 0), (0, 0), 1, 1), ("many", (1,), ((3, 2, 2),))):
            for wishes in ([wish], [("unlike", (0, 2)), wish], [wish, ("unlike", (0, 2))]):
                left, strikes, name = self.told(((0, 1), (2, 3, 4), (0, 1)), wishes)
                self.assertIsNotNone(name)
                self.assertEqual(len(left[name]), 1)

    def test_ends_with_the_last_worth_alone(self):
        left, strikes, name = self.told(((5,),), [("row", (0,), (), ())])
        self.assertEqual((left, strikes, name), (((5,),), [(0, 0, 5, [(0,), ()])], 0))

    def test_each_can_be_and_together_they_end(self):
        wishes = [("sum", (0, 1), (1, 1), 2, 2), ("sum", (0, 1), (1, -1), 1, 1)]
        for order in (wishes, wishes[::-1]):
            self.assertIsNotNone(self.told(((0, 1), (1, 2)), order)[2])

    def test_where_nothing_is_struck_and_yet_none_fulfils_all(self):
        stand = ((0, 1),) * 3
        wishes = [("unlike", (0, 1)), ("unlike", (1, 2)), ("unlike", (2, 0))]
        self.assertEqual(self.told(stand, wishes), (stand, [], None))

    def test_what_is_told_is_new_and_what_is_handed_in_stays(self):
        for stand, wishes in drawn_with_wishes(3, 200):
            kept = copy.deepcopy((stand, wishes))
            told = rounds(stand, wishes)
            wanted = copy.deepcopy(told)
            for strike in told[1]:
                if isinstance(strike[3], list):
                    strike[3].clear()
            told[1].append(None)
            self.assertEqual((stand, wishes), kept)
            ours = list(wishes)
            again = rounds(stand, ours)
            ours.clear()
            self.assertEqual(again, wanted)
            self.assertEqual(rounds(stand, wishes), wanted)


class LeftBy(unittest.TestCase):
    def held(self, stand, wishes, strikes):
        """What is told of the list, held against the point; the truth whether a stand is told."""
        kept = copy.deepcopy((stand, wishes, strikes))
        told = left_by(stand, wishes, strikes)
        wanted = done_by_15(stand, wishes, strikes)
        self.assertEqual((stand, wishes, strikes), kept)
        if told != (None if wanted is None else wanted[0]):
            self.fail(f"{stand!r} {wishes!r} {strikes!r} {told!r}")
        return told is not None

    def test_what_rounds_tell(self):
        for stand, wishes in drawn_with_wishes(4, 600):
            left, strikes, name = rounds(stand, wishes)
            self.assertEqual(left_by(stand, wishes, strikes), left)
            for many in range(len(strikes)):
                self.assertTrue(self.held(stand, wishes, strikes[:many]))

    def test_an_empty_list(self):
        for stand, wishes in drawn_with_wishes(5, 100):
            self.assertEqual(left_by(stand, wishes, []), stand)

    def test_bent(self):
        came_up = {True: 0, False: 0}
        for stand, wishes in drawn_with_wishes(6, 250):
            strikes = rounds(stand, wishes)[1]
            for bent in list(bent_strikes(wishes, strikes))[::3]:
                came_up[self.held(stand, wishes, bent)] += 1
        self.assertGreater(came_up[True], 500)
        self.assertGreater(came_up[False], 5000)

    def test_held_against_other_stands_and_wishes(self):
        drawn = [pair + (rounds(*pair)[1],) for pair in drawn_with_wishes(7, 150)]
        came_up = {True: 0, False: 0}
        for stand, wishes, _ in drawn[::3]:
            for _, others, strikes in drawn:
                came_up[self.held(stand, wishes, strikes)] += 1
                if max([0, *(name for wish in others for name in wish[1])]) < len(stand):
                    came_up[self.held(stand, others, strikes)] += 1
        self.assertGreater(came_up[True], 50)
        self.assertGreater(came_up[False], 50)

    def is_none(self, stand, wishes, strikes):
        with self.subTest(stand=stand, wishes=wishes, strikes=strikes):
            self.assertIsNone(left_by(stand, wishes, strikes))

    STAND = ((0,), (0, 1, 2), (0, 1))
    WISHES = [("unlike", (0, 1)), ("unlike", (1, 2))]

    def test_numbers_beyond(self):
        right = (0, 1, 0, (0, 1))
        self.assertEqual(left_by(self.STAND, self.WISHES, [right]), ((0,), (1, 2), (0, 1)))
        for far in (-10 ** 30, -99, -3, -2, -1, 2, 3, 4, 99, 10 ** 30):
            self.is_none(self.STAND, self.WISHES, [(far,) + right[1:]])
            self.is_none(self.STAND, [], [(far,) + right[1:]])
            self.is_none(self.STAND, self.WISHES, [right[:2] + (far, right[3])])
        for far in (-10 ** 30, -99, -4, -3, -2, -1, 3, 4, 99, 10 ** 30):
            self.is_none(self.STAND, self.WISHES, [(0, far) + right[2:]])
        self.is_none(self.STAND, [], [right])

    def test_below_0_none_counts_from_the_end(self):
        stand = ((0,), (0, 1))
        wishes = [("unlike", (0, 1))]
        self.assertEqual(left_by(stand, wishes, [(0, 1, 0, (0, 1))]), ((0,), (1,)))
        self.is_none(stand, wishes, [(-1, 1, 0, (0, 1))])
        self.is_none(stand, wishes, [(0, -1, 0, (0, 1))])
        self.is_none(stand, wishes, [(-1, -1, 0, (0, 1))])

    def test_another_wish(self):
        self.is_none(self.STAND, self.WISHES, [(1, 1, 0, (0, 1))])
        self.assertEqual(left_by(self.STAND, [self.WISHES[0]] * 2, [(1, 1, 0, (0, 1))]), ((0,), (1, 2), (0, 1)))

    def test_a_worth_that_is_gone_or_was_never_there(self):
        right = (0, 1, 0, (0, 1))
        self.is_none(self.STAND, self.WISHES, [right, right])
        self.is_none(((0,), (1, 2), (0, 1)), self.WISHES, [right])

    def test_looked_at_in_the_stand_that_is_left(self):
        one = (0, 1, 0, (0, 1))
        two = (1, 2, 1, (1, 2))
        stand = ((0,), (0, 1), (1, 2))
        self.assertEqual(left_by(stand, self.WISHES, [one, two]), ((0,), (1,), (2,)))
        self.is_none(stand, self.WISHES, [two, one])
        self.is_none(stand, self.WISHES, [two])

    def test_behind_the_end(self):
        stand = ((0,), (0, 1), (0,))
        wishes = [("unlike", (0, 2)), ("unlike", (0, 1))]
        end = (0, 0, 0, (0, 2))
        other = (1, 1, 0, (0, 1))
        self.assertEqual(left_by(stand, wishes, [end]), stand)
        self.assertEqual(left_by(stand, wishes, [other]), ((0,), (1,), (0,)))
        self.assertEqual(left_by(stand, wishes, [other, end]), ((0,), (1,), (0,)))
        self.is_none(stand, wishes, [end, other])
        self.is_none(stand, wishes, [end, end])
        self.is_none(stand, wishes, [other, end, end])
        self.is_none(stand, wishes, [end, (0, 2, 0, (0, 2))])

    def test_names_that_are_not_the_wishs(self):
        stand = ((0,), (5, 6), (0,))
        never = ("unlike", (0, 2))
        self.assertEqual(left_by(stand, [never], [(0, 1, 5, (0, 2))]), ((0,), (6,), (0,)))
        self.assertEqual(left_by(stand, [never], [(0, 1, 6, (0, 2)), (0, 1, 5, (0, 2))]), ((0,), (5,), (0,)))
        self.is_none(stand, [never], [(0, 1, 6, (0, 2)), (0, 1, 5, (0, 2)), (0, 0, 0, (0, 2))])
        self.is_none(((0, 1), (5, 6), (0,)), [never], [(0, 1, 5, (0, 2))])
        self.is_none(stand, [never], [(0, 1, 5, (0, 1))])

    def test_a_paper_of_another_kind(self):
        stand = ((0, 1), (0,))
        of_kind = {
            ("unlike", (0, 1)): [(0, 1)],
            ("many", (0, 1), ((0, 0, 1),)): [("names", (0, 1))],
            ("sum", (0, 1), (1, 1), 1, 1): [[(0,), (0,), (0,)]],
            ("row", (0, 1), ((0, 1, 1), (1, 0, 1)), (1,)): [[(0,), (), ()]],
            ("hand", (0, 1), (1, 1)): [("first", 0, 1, ("late", (0, 1)), ("late", (1, 0)))],
        }
        for wish in of_kind:
            for kind, papers in of_kind.items():
                for paper in papers:
                    if kind == wish:
                        self.assertEqual(left_by(stand, [wish], [(0, 0, 0, paper)]), ((1,), (0,)))
                    elif {kind[0], wish[0]} != {"sum", "row"}:
                        self.is_none(stand, [wish], [(0, 0, 0, paper)])
            for paper in OF_EACH_KIND:
                self.held(stand, [wish], [(0, 0, 0, paper)])

    def test_what_is_handed_in_is_not_kept(self):
        wishes = [("sum", (0,), (1,), 1, 1)]
        paper = [(0,), (0,)]
        strikes = [(0, 0, 0, paper)]
        self.assertEqual(left_by(((0, 1),), wishes, strikes), ((1,),))
        paper.pop()
        self.is_none(((0, 1),), wishes, strikes)
        paper.append((0,))
        self.assertEqual(left_by(((0, 1),), wishes, strikes), ((1,),))
        wishes.pop()
        self.is_none(((0, 1),), wishes, strikes)


if __name__ == "__main__":
    unittest.main()
