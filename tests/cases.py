"""Test cases that others are made of."""

import copy
import unittest

from wishstrike.errors import NoWish

from draws import drawn
from points import are_whole, fulfilling


class RefusalCase(unittest.TestCase):
    def refused(self, error, call, *things):
        """By just this class, and with all that was handed in as it was."""
        ahead = copy.deepcopy(things)
        with self.subTest(things):
            with self.assertRaises(error) as taken:
                call(*things)
            self.assertIs(type(taken.exception), error)
            self.assertEqual(repr(things), repr(ahead))
            return taken.exception

    def no_wish(self, number, call, *things):
        refusal = self.refused(NoWish, call, *things)
        with self.subTest(things):
            self.assertIs(type(refusal.number), int)
            self.assertEqual(refusal.number, number)


class PaperCase(unittest.TestCase):
    """Of one kind: its two functions, and what its point says of papers."""

    word = ""

    def can(self, stand, wish):
        raise NotImplementedError

    def paper(self, stand, wish, paper):
        raise NotImplementedError

    def right(self, stand, wish, paper):
        raise NotImplementedError

    def told(self, stand, wish):
        """What is told of the stand and the wish, held against all fillings."""
        answer = self.can(stand, wish)
        some = fulfilling(stand, wish)
        if type(answer) is not tuple or len(answer) != 2 or answer[0] != ("can" if some else "no"):
            self.fail(f"{stand!r} {wish!r} {answer!r}")
        if some:
            told_right = are_whole(answer[1]) and answer[1] in some
        else:
            told_right = self.right(stand, wish, answer[1]) and self.paper(stand, wish, answer[1]) is True
        if not told_right:
            self.fail(f"{stand!r} {wish!r} {answer!r}")
        return answer

    def all_told(self, pairs):
        """How often can and no are told, by how many names the wish has."""
        many = {}
        for stand, wish in pairs:
            key = (self.told(stand, wish)[0], len(wish[1]))
            many[key] = many.get(key, 0) + 1
        return many

    def looked_over(self, stand, wish, papers):
        """What is told of papers, held against the point; the truths that came up."""
        came_up = set()
        for paper in papers:
            kept = copy.deepcopy(paper)
            answer = self.paper(stand, wish, paper)
            if answer is not self.right(stand, wish, paper):
                self.fail(f"{stand!r} {wish!r} {paper!r} {answer!r}")
            self.assertEqual(paper, kept)
            came_up.add(answer)
        return came_up

    def yes(self, stand, wish, paper):
        with self.subTest(stand=stand, wish=wish, paper=paper):
            self.assertIs(self.paper(stand, wish, paper), True)

    def no(self, stand, wish, paper):
        with self.subTest(stand=stand, wish=wish, paper=paper):
            self.assertIs(self.paper(stand, wish, paper), False)


class WalkTests:
    """What is tested of sum and of row alike: their papers are lists. To be put ahead of a PaperCase."""

    def onward(self, wish, at, place, worth):
        raise NotImplementedError

    def ends(self, wish):
        raise NotImplementedError

    def least(self, stand, wish):
        """The least list that starts at 0 and is closed: right just where no filling fulfils the wish."""
        paper = [(0,)]
        for at, name in enumerate(wish[1]):
            found = {p for m in paper[-1] for worth in stand[name] for p in self.onward(wish, at, m, worth)}
            paper.append(tuple(sorted(found)))
        return paper

    def lists(self, stand, wish):
        """The least list, and others around it."""
        least = self.least(stand, wish)
        yield from ([], [()], [(0,)], [()] * len(least), [(0,)] * len(least), least, least[::-1])
        yield from ([()] + least, least + [()], [(0,)] + least, least + [(0,)])
        for at, part in enumerate(least):
            yield least[:at] + least[at + 1:]
            yield put_at(least, at, part[::-1])
            yield put_at(least, at, part * 2)
            for number in part:
                yield put_at(least, at, without(part, number))
            for number in (-10 ** 30, -100, -4, -2, -1, 0, 1, 2, 3, 4, 7, 100, 10 ** 30):
                yield put_at(least, at, with_one(part, number))

    def cannot(self, many):
        """Of so many drawn those that can't be, each with its least list."""
        for stand, wish in drawn(self.word, many):
            if not fulfilling(stand, wish):
                yield stand, wish, self.least(stand, wish)

    def test_can_of_drawn(self):
        many = self.all_told(drawn(self.word, 6000))
        for told in ("can", "no"):
            for names in (1, 2, 3, 4):
                self.assertGreater(many[told, names], 20)

    def test_lists_around_the_least(self):
        for stand, wish in drawn(self.word, 600):
            came_up = self.looked_over(stand, wish, self.lists(stand, wish))
            self.assertEqual(True in came_up, not fulfilling(stand, wish))

    def test_the_least_list_and_each_number_of_it(self):
        for stand, wish, least in self.cannot(400):
            self.yes(stand, wish, least)
            for at, part in enumerate(least):
                for number in part:
                    self.no(stand, wish, put_at(least, at, without(part, number)))

    def test_one_too_short_and_one_too_long(self):
        for stand, wish, least in self.cannot(400):
            for at in range(len(least)):
                self.no(stand, wish, least[:at] + least[at + 1:])
            for more in ((), (0,), (77,), least[-1]):
                self.no(stand, wish, least + [more])
                self.no(stand, wish, [more] + least)
            self.no(stand, wish, [])

    def test_a_number_more(self):
        for stand, wish, least in self.cannot(400):
            for number in (-10 ** 30, -500, 500, 10 ** 30):
                self.yes(stand, wish, put_at(least, len(least) - 1, with_one(least[-1], number)))
            for number in self.ends(wish):
                self.no(stand, wish, put_at(least, len(least) - 1, with_one(least[-1], number)))

    def test_each_is_rising(self):
        for stand, wish, least in self.cannot(400):
            for at, part in enumerate(least):
                if part:
                    self.no(stand, wish, put_at(least, at, part + part[-1:]))
                    self.no(stand, wish, put_at(least, at, part[:1] + part))
                    self.no(stand, wish, put_at(least, at, (part[0] + 1000,) + part))
                if len(part) > 1:
                    self.no(stand, wish, put_at(least, at, part[::-1]))

    def test_what_is_told_is_the_askers_own(self):
        for stand, wish, least in self.cannot(200):
            kept = copy.deepcopy((stand, wish))
            told = self.can(stand, wish)
            paper = list(told[1])
            self.assertIs(type(told[1]), list)
            told[1].clear()
            again = self.can(stand, wish)
            self.assertEqual(again, ("no", paper))
            again[1][0] = (5,)
            again[1].append((0,))
            self.assertEqual(self.can(stand, wish), ("no", paper))
            self.assertEqual((stand, wish), kept)

    def test_what_is_handed_in_is_not_kept(self):
        for stand, wish, least in self.cannot(200):
            paper = list(least)
            self.yes(stand, wish, paper)
            self.assertEqual(paper, least)
            paper.pop()
            self.no(stand, wish, paper)
            self.yes(stand, wish, least)
            paper.append(least[-1])
            self.yes(stand, wish, paper)

    def test_papers_of_other_kinds(self):
        for stand, wish, least in self.cannot(50):
            for paper in ((), (0, 1), tuple(least), ("names", (0,)), ("worths", (0, 1)), ("late", (0, 1))):
                self.no(stand, wish, paper)


def put_at(paper, at, part):
    return paper[:at] + [part] + paper[at + 1:]


def without(part, number):
    return tuple(each for each in part if each != number)


def with_one(part, number):
    return tuple(sorted({*part, number}))
