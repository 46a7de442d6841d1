"""Points 10 to 12, with 1 and 2 as they hold of them: nocross.ring."""

import itertools
import unittest

from nocross import ring
from nocross.errors import NoPlace
from nocross.order import finer
from nocross.ring import back, between, mirrored, turned
from nocross.ties import coarsest, finest, made
from rings import NO_WHOLE_NUMBERS, all_ties, is_tie, lies_within, like_tie, some_ties, tells_own

SMALL = range(1, 8)
LARGE = [finest(60), coarsest(60), made(60, [[0, 59]]), made(60, [[0, 30], [31, 59]])]
LARGE = LARGE + [made(60, [[place, 59 - place] for place in range(30)])]
LARGE = LARGE + some_ties(60, 6, 11) + some_ties(59, 6, 12)
FAR = 10 ** 5000


def small_ties():
    return [tie for many in SMALL for tie in all_ties(many)]


def renamed(tie, become):
    """The tie in which each place p has become the place become(p)."""
    many, groups = tie
    return (many, sorted(tuple(sorted(become(place) for place in group)) for group in groups))


def gaps_tied(tie, one, other):
    """Whether no group has places in both parts, by the words of point 11."""
    low, high = sorted([one, other])
    part = set(range(low + 1, high + 1))
    return all(part.issuperset(group) or part.isdisjoint(group) for group in tie[1])


def gaps_of(tie):
    return like_tie(tie[0], lambda one, other: gaps_tied(tie, one, other))


class Interface(unittest.TestCase):
    def test_names_stand_in_the_file(self):
        for name in ["turned", "mirrored", "between", "back"]:
            self.assertEqual(getattr(ring, name).__module__, "nocross.ring")

    def test_arguments_by_name(self):
        tie = finest(2)
        self.assertEqual(turned(tie=tie, by=1), tie)
        self.assertEqual(mirrored(tie=tie), tie)
        self.assertEqual(between(tie=tie), coarsest(2))
        self.assertEqual(back(tie=tie), coarsest(2))


class Turned(unittest.TestCase):
    """Point 10, turned."""

    def check(self, tie, by):
        told = turned(tie, by)
        self.assertTrue(is_tie(told), told)
        self.assertEqual(told, renamed(tie, lambda place: (place + by) % tie[0]))

    def test_by_hand(self):
        tie = made(6, [[0, 2, 3], [4, 5]])
        self.assertEqual(turned(tie, 1), (6, [(0, 5), (1, 3, 4), (2,)]))
        self.assertEqual(turned(tie, 2), (6, [(0, 1), (2, 4, 5), (3,)]))
        self.assertEqual(turned(tie, -1), (6, [(0,), (1, 2, 5), (3, 4)]))

    def test_all_ties_of_small_rings(self):
        for tie in small_ties():
            for by in range(-2 * tie[0] - 1, 2 * tie[0] + 2):
                self.check(tie, by)

    def test_large_rings(self):
        for tie, by in itertools.product(LARGE, [-61, -60, -59, -1, 0, 1, 29, 59, 60, 61, 119, 120]):
            self.check(tie, by)

    def test_far_beyond_the_count(self):
        for tie, by in itertools.product(LARGE + [finest(1), made(7, [[0, 1, 4]])], [FAR, -FAR, FAR + 7, 7 - FAR]):
            self.check(tie, by)
            self.assertEqual(turned(tie, by), turned(tie, by % tie[0]))

    def test_by_nought_and_by_the_count(self):
        for tie in small_ties() + LARGE:
            for times in [0, 1, -1, 5, FAR, -FAR]:
                self.assertEqual(turned(tie, times * tie[0]), tie)

    def test_of_one_place(self):
        for by in [-FAR, -1, 0, 1, FAR]:
            self.assertEqual(turned(finest(1), by), (1, [(0,)]))

    def test_no_place(self):
        for tie, by in itertools.product([finest(1), coarsest(4), finest(60)], NO_WHOLE_NUMBERS):
            with self.assertRaises(NoPlace, msg=repr(by)):
                turned(tie, by)


class Mirrored(unittest.TestCase):
    """Point 10, mirrored."""

    def test_by_hand(self):
        self.assertEqual(mirrored(made(6, [[0, 2, 3], [4, 5]])), (6, [(0, 1), (2, 3, 5), (4,)]))
        self.assertEqual(mirrored(made(4, [[0, 1]])), (4, [(0,), (1,), (2, 3)]))

    def test_by_the_words_of_the_document(self):
        for tie in small_ties() + LARGE:
            told = mirrored(tie)
            self.assertTrue(is_tie(told), told)
            self.assertEqual(told, renamed(tie, lambda place: tie[0] - 1 - place))
            self.assertEqual(mirrored(told), tie)

    def test_of_one_place(self):
        self.assertEqual(mirrored(finest(1)), (1, [(0,)]))


class Between(unittest.TestCase):
    """Point 11."""

    def test_by_hand(self):
        self.assertEqual(between(made(6, [[0, 2, 3], [4, 5]])), (6, [(0, 1), (2,), (3, 5), (4,)]))
        self.assertEqual(between(made(3, [[1, 2]])), (3, [(0, 2), (1,)]))
        self.assertEqual(between(made(3, [[0, 1]])), (3, [(0,), (1, 2)]))

    def test_by_the_words_of_the_document(self):
        for tie in small_ties() + LARGE:
            told = between(tie)
            self.assertTrue(is_tie(told), told)
            self.assertEqual(told, gaps_of(tie))

    def test_the_finest_and_the_coarsest(self):
        for many in range(1, 61):
            self.assertEqual(between(finest(many)), coarsest(many))
            self.assertEqual(between(coarsest(many)), finest(many))


class Laws(unittest.TestCase):
    """Point 12."""

    def test_between_twice(self):
        for tie in small_ties() + LARGE:
            self.assertEqual(between(between(tie)), turned(tie, -1))

    def test_groups_together(self):
        for tie in small_ties() + LARGE:
            self.assertEqual(len(tie[1]) + len(between(tie)[1]), tie[0] + 1)

    def test_finer_just_where_between_is_coarser(self):
        for many in range(1, 7):
            pairs = [(tie, between(tie)) for tie in all_ties(many)]
            for (one, of_one), (other, of_other) in itertools.product(pairs, repeat=2):
                self.assertEqual(lies_within(one, other), finer(of_other, of_one))

    def test_finer_in_large_rings(self):
        for one, other in itertools.product([tie for tie in LARGE if tie[0] == 60], repeat=2):
            self.assertEqual(finer(one, other), finer(between(other), between(one)))

    def test_back_of_small_rings(self):
        for many in SMALL:
            whose = {tuple(gaps_of(tie)[1]): tie for tie in all_ties(many)}
            self.assertEqual(len(whose), len(all_ties(many)))
            for tie in all_ties(many):
                self.assertEqual(back(tie), whose[tuple(tie[1])])

    def test_back_of_large_rings(self):
        for tie in LARGE:
            self.assertTrue(is_tie(back(tie)))
            self.assertEqual(gaps_of(back(tie)), tie)
            self.assertEqual(back(gaps_of(tie)), tie)

    def test_back_of_the_finest_and_the_coarsest(self):
        for many in range(1, 61):
            self.assertEqual(back(finest(many)), coarsest(many))
            self.assertEqual(back(coarsest(many)), finest(many))


class Kept(unittest.TestCase):
    """Point 2, for nocross.ring."""

    TIES = [finest(1), finest(5), coarsest(5), made(6, [[0, 2, 3], [4, 5]]), made(4, [[0, 3], [1, 2]])]

    def handed(self):
        return [(tie[0], list(tie[1])) for tie in self.TIES]

    def test_mirrored_between_and_back(self):
        for ask in [mirrored, between, back]:
            for tie in self.handed():
                self.assertTrue(tells_own(ask, tie), ask)

    def test_turned(self):
        for by in [0, 1, -1, 4, 5, 6, 60, FAR]:
            for tie in self.handed():
                self.assertTrue(tells_own(turned, tie, by), by)

    def test_what_is_refused_stays(self):
        tie = made(3, [[0, 2]])
        with self.assertRaises(NoPlace):
            turned(tie, True)
        self.assertEqual(tie, (3, [(0, 2), (1,)]))


if __name__ == "__main__":
    unittest.main()
