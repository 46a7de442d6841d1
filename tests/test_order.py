"""Points 7 to 9, with 1 and 2 as they hold of them: nocross.order."""

import copy
import itertools
import unittest

from nocross import order
from nocross.errors import NotFiner, Unlike
from nocross.order import finer, joined, shared, way
from nocross.ties import coarsest, finest, made
from rings import all_ties, closed, is_tie, lies_within, some_ties

CALLS = [finer, shared, joined, way]
SMALL = range(1, 7)


class Table:
    """All ties of a ring, and which is finer than which, by the words of point 7."""

    def __init__(self, many):
        self.ties = all_ties(many)
        self.at = {tuple(groups): at for at, (_, groups) in enumerate(self.ties)}
        size = range(len(self.ties))
        self.below = [
            {low for low in size if lies_within(self.ties[low], self.ties[high])} for high in size
        ]
        self.above = [{high for high in size if low in self.below[high]} for low in size]

    def place(self, tie):
        return self.at[tuple(tie[1])]

    def pairs(self):
        return itertools.product(enumerate(self.ties), repeat=2)


class Interface(unittest.TestCase):
    def test_names_stand_in_the_file(self):
        for name in ["finer", "shared", "joined", "way"]:
            self.assertEqual(getattr(order, name).__module__, "nocross.order")

    def test_arguments_by_name(self):
        low, high = finest(2), coarsest(2)
        self.assertIs(finer(one=low, other=high), True)
        self.assertEqual(shared(one=low, other=high), low)
        self.assertEqual(joined(one=low, other=high), high)
        self.assertEqual(way(one=low, other=high), [low, high])


class Refused(unittest.TestCase):
    def test_unlike(self):
        for call, (few, more) in itertools.product(CALLS, [(1, 2), (3, 4), (59, 60), (1, 60)]):
            for one, other in itertools.product([finest, coarsest], repeat=2):
                with self.assertRaises(Unlike):
                    call(one(few), other(more))
                with self.assertRaises(Unlike):
                    call(other(more), one(few))

    def test_not_finer(self):
        for one, other in [
            (coarsest(2), finest(2)),
            (coarsest(60), finest(60)),
            (made(4, [[0, 1]]), made(4, [[2, 3]])),
            (made(4, [[0, 2]]), made(4, [[1, 3]])),
            (made(4, [[0, 3]]), made(4, [[0, 1, 2]])),
        ]:
            with self.assertRaises(NotFiner):
                way(one, other)

    def test_unlike_ahead_of_not_finer(self):
        with self.assertRaises(Unlike):
            way(coarsest(4), finest(3))
        with self.assertRaises(Unlike):
            way(coarsest(3), finest(4))


class Finer(unittest.TestCase):
    """Point 7."""

    def test_all_pairs_of_small_rings(self):
        for many in SMALL:
            table = Table(many)
            for (low, one), (high, other) in table.pairs():
                self.assertIs(finer(one, other), low in table.below[high])

    def test_each_is_finer_than_itself(self):
        for tie in [finest(1), finest(60), coarsest(60)] + some_ties(60, 5, 3):
            self.assertIs(finer(tie, copy.deepcopy(tie)), True)

    def test_large_rings(self):
        for tie in some_ties(60, 5, 4):
            self.assertIs(finer(finest(60), tie), True)
            self.assertIs(finer(tie, coarsest(60)), True)
            self.assertIs(finer(tie, finest(60)), False)
            self.assertIs(finer(coarsest(60), tie), False)
        low = made(60, [[0, 59]])
        self.assertIs(finer(low, made(60, [[0, 30, 59]])), True)
        self.assertIs(finer(low, made(60, [list(range(59))])), False)

    def test_crossing_ways_apart(self):
        self.assertIs(finer(made(4, [[0, 2]]), made(4, [[1, 3]])), False)
        self.assertIs(finer(made(4, [[0, 1], [2, 3]]), made(4, [[0, 3], [1, 2]])), False)


class SharedAndJoined(unittest.TestCase):
    """Point 8."""

    def test_shared(self):
        one, other = made(6, [[0, 1, 2], [3, 4, 5]]), made(6, [[0, 2, 3, 5]])
        self.assertEqual(shared(one, other), (6, [(0, 2), (1,), (3, 5), (4,)]))

    def test_joined(self):
        one, other = made(6, [[0, 1], [3, 4]]), made(6, [[1, 2], [4, 5]])
        self.assertEqual(joined(one, other), (6, [(0, 1, 2), (3, 4, 5)]))

    def test_joined_takes_in_what_would_cross(self):
        self.assertEqual(joined(made(4, [[0, 2]]), made(4, [[1, 3]])), coarsest(4))
        one, other = made(8, [[0, 2], [3, 5], [6, 7]]), made(8, [[1, 4]])
        self.assertEqual(joined(one, other), (8, [(0, 1, 2, 3, 4, 5), (6, 7)]))

    def test_all_pairs_of_small_rings(self):
        for many in SMALL:
            table = Table(many)
            for (low, one), (high, other) in table.pairs():
                told = shared(one, other)
                self.assertTrue(is_tie(told), told)
                self.assertEqual(table.below[table.place(told)], table.below[low] & table.below[high])
                told = joined(one, other)
                self.assertTrue(is_tie(told), told)
                self.assertEqual(table.above[table.place(told)], table.above[low] & table.above[high])

    def test_of_one_place(self):
        self.assertEqual(shared(finest(1), finest(1)), (1, [(0,)]))
        self.assertEqual(joined(finest(1), finest(1)), (1, [(0,)]))

    def test_with_the_finest_and_the_coarsest(self):
        for tie in some_ties(60, 5, 5):
            for call, with_finest, with_coarsest in [
                (shared, finest(60), tie), (joined, tie, coarsest(60)),
            ]:
                self.assertEqual(call(tie, finest(60)), with_finest)
                self.assertEqual(call(finest(60), tie), with_finest)
                self.assertEqual(call(tie, coarsest(60)), with_coarsest)
                self.assertEqual(call(coarsest(60), tie), with_coarsest)
                self.assertEqual(call(tie, tie), tie)

    def test_large_rings(self):
        for one, other in itertools.combinations(some_ties(60, 8, 6), 2):
            meet = [tuple(sorted(set(a) & set(b))) for a in one[1] for b in other[1] if set(a) & set(b)]
            self.assertEqual(shared(one, other), (60, sorted(meet)))
            self.assertEqual(joined(one, other), closed(60, one[1] + other[1]))

    def test_long_chains_that_join(self):
        even = made(60, [[place, place + 1] for place in range(0, 60, 2)])
        odd = made(60, [[place, place + 1] for place in range(1, 59, 2)])
        self.assertEqual(joined(even, odd), coarsest(60))
        self.assertEqual(shared(even, odd), finest(60))
        nested = made(60, [[place, 59 - place] for place in range(30)])
        self.assertEqual(joined(nested, made(60, [[0, 29]])), coarsest(60))


class Way(unittest.TestCase):
    """Point 9."""

    def check(self, one, other):
        told = way(one, other)
        self.assertIs(type(told), list)
        self.assertEqual((told[0], told[-1]), (one, other))
        self.assertEqual(len(told), len(one[1]) - len(other[1]) + 1)
        for tie in told:
            self.assertTrue(is_tie(tie), tie)
        for low, high in zip(told, told[1:]):
            self.assertEqual(len(high[1]), len(low[1]) - 1)
            self.assertTrue(lies_within(low, high))

    def test_all_pairs_of_small_rings(self):
        for many in SMALL:
            table = Table(many)
            for (low, one), (high, other) in table.pairs():
                if low in table.below[high]:
                    self.check(one, other)
                else:
                    with self.assertRaises(NotFiner):
                        way(one, other)

    def test_of_two_like_ties(self):
        for tie in [finest(1), finest(60), coarsest(60), made(5, [[0, 2], [3, 4]])]:
            self.assertEqual(way(tie, copy.deepcopy(tie)), [tie])

    def test_large_rings(self):
        self.check(finest(60), coarsest(60))
        nested = made(60, [[place, 59 - place] for place in range(30)])
        for tie in [nested] + some_ties(60, 4, 7):
            self.check(finest(60), tie)
            self.check(tie, coarsest(60))
            self.check(shared(tie, nested), tie)
            self.check(tie, joined(tie, nested))


class Kept(unittest.TestCase):
    """Point 2, for nocross.order."""

    PAIRS = [
        (made(6, [[0, 1]]), made(6, [[0, 1, 4], [2, 3]])),
        (finest(6), coarsest(6)),
        (finest(6), finest(6)),
        (coarsest(6), coarsest(6)),
        (finest(1), finest(1)),
    ]

    def test_what_is_handed_in_stays(self):
        for call, (one, other) in itertools.product(CALLS, self.PAIRS):
            before = copy.deepcopy((one, other))
            call(one, other)
            self.assertEqual((one, other), before)

    def test_what_is_refused_stays(self):
        one, other = coarsest(4), made(4, [[0, 1]])
        with self.assertRaises(NotFiner):
            way(one, other)
        self.assertEqual((one, other), ((4, [(0, 1, 2, 3)]), (4, [(0, 1), (2,), (3,)])))

    def test_ties_told_have_lists_of_their_own(self):
        for call, pair in itertools.product([shared, joined], self.PAIRS):
            one, other = copy.deepcopy(pair)
            first, second = call(one, other), call(one, other)
            expected = copy.deepcopy(first)
            first[1].clear()
            self.assertEqual((one, other), pair)
            self.assertEqual(second, expected)
            self.assertEqual(call(one, other), expected)
            one[1].clear()
            other[1].clear()
            self.assertEqual(second, expected)

    def test_a_tie_handed_in_twice(self):
        tie = made(4, [[0, 3]])
        for call in [shared, joined]:
            told = call(tie, tie)
            told[1].clear()
            self.assertEqual(tie, (4, [(0, 3), (1,), (2,)]))
        told = way(tie, tie)
        told[0][1].clear()
        self.assertEqual(tie, (4, [(0, 3), (1,), (2,)]))

    def test_each_step_of_a_way_has_a_list_of_its_own(self):
        for pair in self.PAIRS:
            one, other = copy.deepcopy(pair)
            told, again = way(one, other), way(one, other)
            expected = copy.deepcopy(told)
            lists = [tie[1] for tie in [one, other] + told + again]
            self.assertEqual(len({id(groups) for groups in lists}), len(lists))
            for at, tie in enumerate(told):
                tie[1].clear()
                self.assertEqual(told[at + 1:], expected[at + 1:])
            told.clear()
            self.assertEqual((one, other), pair)
            self.assertEqual(again, expected)
            self.assertEqual(way(one, other), expected)
            one[1].clear()
            other[1].clear()
            self.assertEqual(again, expected)


if __name__ == "__main__":
    unittest.main()
