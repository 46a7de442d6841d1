"""The helpers of the tests themselves."""

import unittest

from rings import all_ties, closed, crosses, first_places, is_tie, least_crossing, lies_within, like_tie
from rings import partitions, some_ties, tells_own


class Helpers(unittest.TestCase):
    def test_counts(self):
        self.assertEqual([len(partitions(many)) for many in range(1, 7)], [1, 2, 5, 15, 52, 203])
        self.assertEqual([len(all_ties(many)) for many in range(1, 7)], [1, 2, 5, 14, 42, 132])

    def test_two_ways_to_see_a_crossing_agree(self):
        for many in range(1, 7):
            for groups in partitions(many):
                self.assertEqual(crosses(groups), least_crossing(groups) is not None)

    def test_form_of_a_tie(self):
        self.assertTrue(is_tie((3, [(0, 2), (1,)])))
        for wrong in [
            [3, [(0, 2), (1,)]], (3, ((0, 2), (1,))), (3, [[0, 2], (1,)]), (3, [(2, 0), (1,)]),
            (3, [(1,), (0, 2)]), (3, [(0, 2)]), (3, [(0, 2), (1, 2)]), (3, [(0, 2), (1,), ()]),
            (4, [(0, 2), (1, 3)]), (0, []), (True, [(0,)]), (2, [(0,), (True,)]),
        ]:
            self.assertFalse(is_tie(wrong), wrong)

    def test_closed(self):
        self.assertEqual(closed(6, [(0, 2), (1, 3)]), (6, [(0, 1, 2, 3), (4,), (5,)]))
        self.assertEqual(closed(3, []), (3, [(0,), (1,), (2,)]))

    def test_closed_is_the_finest_coarser_tie(self):
        for groups in partitions(5):
            told = closed(5, groups)
            coarser = [tie for tie in all_ties(5) if lies_within((5, groups), tie)]
            self.assertIn(told, coarser)
            self.assertTrue(all(lies_within(told, tie) for tie in coarser))

    def test_like_tie(self):
        self.assertEqual(like_tie(5, lambda one, other: one % 3 == other % 3), (5, [(0, 3), (1, 4), (2,)]))

    def test_first_places(self):
        self.assertEqual(first_places((6, [(0, 2, 3), (1,), (4, 5)])), [0, 1, 0, 0, 4, 4])

    def test_tells_own(self):
        kept = (1, [(0,)])
        self.assertTrue(tells_own(lambda tie: (tie[0], list(tie[1])), (1, [(0,)])))
        self.assertFalse(tells_own(lambda tie: tie, (1, [(0,)])))
        self.assertFalse(tells_own(lambda tie: (tie[0], tie[1]), (1, [(0,)])))
        self.assertFalse(tells_own(lambda: kept))
        self.assertFalse(tells_own(lambda tie: (1, [tie[1].pop()]), (2, [(0,), (1,)])))

    def test_some_ties(self):
        ties = some_ties(60, 20, 1)
        self.assertTrue(all(is_tie(tie) for tie in ties))
        self.assertEqual(ties, some_ties(60, 20, 1))
        self.assertGreater(max(len(group) for tie in ties for group in tie[1]), 4)


if __name__ == "__main__":
    unittest.main()
