"""Points 1 to 6: the form of ties, and nocross.ties."""

import copy
import itertools
import unittest

from nocross import ties
from nocross.errors import BadCount, BadGroup, Crossed, NoPlace, Twice
from nocross.ties import MOST, coarsest, crossing, finest, group_of, leaders, made, tied
from rings import BAD_COUNTS, all_ties, is_tie, least_crossing, partitions, some_ties

NO_PLACES = [5, 6, -1, -5, 60, 10 ** 5000, True, False, "0", "", b"0", 0.0, None, [], [0], (0,), {}]


class Interface(unittest.TestCase):
    def test_names_stand_in_the_file(self):
        for name in ["made", "crossing", "finest", "coarsest", "group_of", "tied", "leaders"]:
            self.assertEqual(getattr(ties, name).__module__, "nocross.ties")

    def test_most(self):
        self.assertIs(type(MOST), int)
        self.assertEqual(MOST, 60)

    def test_arguments_by_name(self):
        tie = made(many=3, groups=[[0, 2]])
        self.assertEqual(tie, (3, [(0, 2), (1,)]))
        self.assertIsNone(crossing(many=3, groups=[[0, 2]]))
        self.assertEqual(finest(many=1), coarsest(many=1))
        self.assertEqual(group_of(tie=tie, place=2), (0, 2))
        self.assertIs(tied(tie=tie, one=0, other=2), True)
        self.assertEqual(leaders(tie=tie), [0, 1, 0])


class Form(unittest.TestCase):
    """Point 1."""

    def test_each_tie_that_is_made_has_the_form(self):
        for many in range(1, 8):
            for tie in all_ties(many):
                told = made(many, [list(group)[::-1] for group in tie[1]][::-1])
                self.assertTrue(is_tie(told), told)
                self.assertEqual(told, tie)

    def test_each_count_of_places(self):
        for many in range(1, 61):
            for told in [made(many, []), finest(many), coarsest(many)]:
                self.assertTrue(is_tie(told), told)
                self.assertEqual(told[0], many)

    def test_large_rings(self):
        for tie in some_ties(60, 5, 1) + some_ties(59, 5, 2):
            self.assertTrue(is_tie(tie))
            told = made(tie[0], tie[1][::-1])
            self.assertTrue(is_tie(told))
            self.assertEqual(told, tie)


class Kept(unittest.TestCase):
    """Point 2, for nocross.ties."""

    def test_what_is_handed_in_stays(self):
        handed = [[5, 2], (4, 3), [0]]
        before = copy.deepcopy(handed)
        made(6, handed)
        crossing(6, handed)
        self.assertEqual(handed, before)
        self.assertEqual([type(group) for group in handed], [list, tuple, list])

    def test_what_is_refused_stays(self):
        for call, handed in itertools.product([made, crossing], [[[2, 0], [3, 1]], [[1, 0], [0, 2]], [[1, 0], "x"]]):
            before = copy.deepcopy(handed)
            try:
                call(4, handed)
            except (Crossed, Twice, BadGroup):
                pass
            self.assertEqual(handed, before)

    def test_a_tie_that_is_asked_of_stays(self):
        tie = made(6, [[5, 2], [3, 4]])
        before = copy.deepcopy(tie)
        group_of(tie, 3)
        tied(tie, 2, 5)
        leaders(tie)
        self.assertEqual(tie, before)

    def test_the_tie_is_not_what_was_handed_in(self):
        groups = [(0, 1), (2,)]
        tie = made(3, groups)
        self.assertIsNot(tie[1], groups)
        tie[1].append("x")
        self.assertEqual(groups, [(0, 1), (2,)])
        tie = made(3, groups)
        groups.clear()
        self.assertEqual(tie, (3, [(0, 1), (2,)]))

    def test_a_list_handed_in_and_changed_later_changes_no_tie(self):
        group = [2, 0]
        tie = made(3, [group])
        group.append(1)
        self.assertEqual(tie, (3, [(0, 2), (1,)]))

    def test_what_is_told_is_told_anew(self):
        for ask in [lambda: made(4, [[1, 2]]), lambda: made(4, []), lambda: finest(4), lambda: coarsest(4)]:
            first, second = ask(), ask()
            self.assertIsNot(first[1], second[1])
            expected = copy.deepcopy(second)
            first[1].clear()
            self.assertEqual(second, expected)
            self.assertEqual(ask(), expected)

    def test_leaders_are_told_anew(self):
        tie = made(4, [[1, 3]])
        first, second = leaders(tie), leaders(tie)
        first[3] = 9
        first.append(9)
        self.assertEqual(second, [0, 1, 2, 1])
        self.assertEqual(leaders(tie), [0, 1, 2, 1])
        self.assertEqual(tie, (4, [(0,), (1, 3), (2,)]))

    def test_a_tie_changed_changes_nothing_told_of_it(self):
        tie = made(4, [[1, 3]])
        group, firsts = group_of(tie, 3), leaders(tie)
        tie[1].clear()
        self.assertEqual((group, firsts), ((1, 3), [0, 1, 2, 1]))


class Made(unittest.TestCase):
    """Point 3."""

    def test_places_in_any_order(self):
        self.assertEqual(made(6, [[5, 4], (3, 0, 2)]), (6, [(0, 2, 3), (1,), (4, 5)]))

    def test_no_group_handed_in(self):
        self.assertEqual(made(1, []), (1, [(0,)]))
        self.assertEqual(made(3, []), (3, [(0,), (1,), (2,)]))
        self.assertEqual(made(60, []), (60, [(place,) for place in range(60)]))

    def test_all_in_one_group(self):
        self.assertEqual(made(1, [[0]]), (1, [(0,)]))
        self.assertEqual(made(60, [list(range(60))[::-1]]), (60, [tuple(range(60))]))

    def test_nested_groups(self):
        nested = [[place, 59 - place] for place in range(30)]
        self.assertEqual(made(60, nested[::-1]), (60, [tuple(pair) for pair in nested]))

    def test_groups_of_one_place(self):
        self.assertEqual(made(3, [(2,), [0]]), (3, [(0,), (1,), (2,)]))

    def test_bad_count(self):
        for call, many in itertools.product([made, crossing], BAD_COUNTS):
            with self.assertRaises(BadCount):
                call(many, [])

    def test_bad_group(self):
        wrong = [
            [], (), "01", "", b"01", 0, None, {0}, {0: 1}, range(2), True, 1.0,
            [True], [False], ["0"], [b"0"], [0.0], [None], [[0]], [(0,)], [{0}],
            [-1], [5], [0, 60], [0, -10 ** 5000], (10 ** 5000,), ([0], 1), [0, "1"],
        ]
        for call, group in itertools.product([made, crossing], wrong):
            for groups in [[group], [[1, 2], group], [group, [1, 2]]]:
                with self.assertRaises(BadGroup, msg=str(type(group))):
                    call(5, groups)

    def test_twice(self):
        for call in [made, crossing]:
            for groups in [[[0, 0]], [[0, 1, 0]], [[0], [0]], [(1, 2), [3], [4, 2]], [[4], (4, 0)]]:
                with self.assertRaises(Twice):
                    call(5, groups)

    def test_crossed(self):
        for groups in [[[0, 2], [1, 3]], [[3, 1], [2, 0]], [[4, 2], [0, 1, 3]], [[1, 4], (3, 5), [0]]]:
            with self.assertRaises(Crossed):
                made(6, groups)
        with self.assertRaises(Crossed):
            made(60, [[0, 58], [59, 57]])

    def test_crossed_just_where_two_groups_cross(self):
        for many in range(1, 8):
            for groups in partitions(many):
                if least_crossing(groups) is None:
                    self.assertEqual(made(many, groups), (many, groups))
                else:
                    with self.assertRaises(Crossed):
                        made(many, groups)

    def test_the_count_is_refused_first(self):
        for call, many in itertools.product([made, crossing], [0, 61, True, "6"]):
            for groups in [["x"], [[]], [[0, 0]], [[0, 2], [1, 3]], [[99]]]:
                with self.assertRaises(BadCount):
                    call(many, groups)

    def test_group_by_group(self):
        for call in [made, crossing]:
            for kind, groups in [
                (Twice, [[0, 0], "x"]),
                (BadGroup, ["x", [0, 0]]),
                (Twice, [[0], [1, 0], []]),
                (BadGroup, [[0], [], [1, 0]]),
                (Twice, [[0, 0], [9]]),
                (BadGroup, [[9], [0, 0]]),
                (BadGroup, [[0, 0, 9]]),
                (BadGroup, [[9, 0, 0]]),
                (BadGroup, [[0], [0, True]]),
                (BadGroup, [[0], [True, 0]]),
                (BadGroup, [[0, 0, "1"]]),
                (BadGroup, [[1], [0, 1, 9], [0, 0]]),
            ]:
                with self.assertRaises(kind, msg=str(groups)):
                    call(5, groups)

    def test_crossed_is_refused_last(self):
        cross = [[0, 2], [1, 3]]
        for call in [made, crossing]:
            for kind, more in [(BadGroup, []), (BadGroup, [9]), (BadGroup, "x"), (Twice, [0]), (Twice, [4, 4])]:
                for groups in [cross + [more], [cross[0], more, cross[1]]]:
                    with self.assertRaises(kind):
                        call(5, groups)


class Crossing(unittest.TestCase):
    """Point 4."""

    def test_none(self):
        self.assertIsNone(crossing(1, []))
        self.assertIsNone(crossing(1, [[0]]))
        self.assertIsNone(crossing(60, []))
        self.assertIsNone(crossing(60, [list(range(60))]))
        self.assertIsNone(crossing(6, [[5, 4], (3, 0, 2)]))
        self.assertIsNone(crossing(60, [[place, 59 - place] for place in range(30)]))

    def test_four_places(self):
        self.assertEqual(crossing(4, [[0, 2], [1, 3]]), (0, 1, 2, 3))
        self.assertEqual(crossing(4, [(3, 1), (2, 0)]), (0, 1, 2, 3))
        self.assertIs(type(crossing(4, [[0, 2], [1, 3]])), tuple)

    def test_the_least_one(self):
        self.assertEqual(crossing(5, [[0, 1, 3], [2, 4]]), (0, 2, 3, 4))
        self.assertEqual(crossing(8, [[4, 6], [5, 7], [0, 2], [1, 3]]), (0, 1, 2, 3))
        self.assertEqual(crossing(7, [[0, 2, 4], [3, 5, 6]]), (0, 3, 4, 5))
        self.assertEqual(crossing(8, [[0, 6], [5, 7], [1, 3, 4], [2]]), (0, 5, 6, 7))

    def test_large_rings(self):
        self.assertEqual(crossing(60, [[0, 58], [57, 59]]), (0, 57, 58, 59))
        self.assertEqual(crossing(60, [range_list(0), range_list(1)]), (0, 1, 2, 3))
        self.assertEqual(crossing(60, [list(range(57)) + [58], [57, 59]]), (0, 57, 58, 59))

    def test_all_groups_of_small_rings(self):
        for many in range(1, 8):
            for groups in partitions(many):
                self.assertEqual(crossing(many, groups[::-1]), least_crossing(groups))

    def test_groups_that_leave_places_out(self):
        for groups in partitions(6):
            for left in range(len(groups)):
                some = groups[:left] + groups[left + 1:]
                self.assertEqual(crossing(6, some), least_crossing(some))


def range_list(first):
    """Every second place of the largest ring."""
    return list(range(first, 60, 2))


class Ends(unittest.TestCase):
    """Point 5."""

    def test_finest(self):
        self.assertEqual(finest(1), (1, [(0,)]))
        self.assertEqual(finest(3), (3, [(0,), (1,), (2,)]))
        self.assertEqual(finest(60), (60, [(place,) for place in range(60)]))

    def test_coarsest(self):
        self.assertEqual(coarsest(1), (1, [(0,)]))
        self.assertEqual(coarsest(3), (3, [(0, 1, 2)]))
        self.assertEqual(coarsest(60), (60, [tuple(range(60))]))

    def test_bad_count(self):
        for call, many in itertools.product([finest, coarsest], BAD_COUNTS):
            with self.assertRaises(BadCount):
                call(many)


class Places(unittest.TestCase):
    """Point 6."""

    def test_group_of(self):
        tie = made(6, [[0, 2, 3], [4, 5]])
        told = [group_of(tie, place) for place in range(6)]
        self.assertEqual(told, [(0, 2, 3), (1,), (0, 2, 3), (0, 2, 3), (4, 5), (4, 5)])

    def test_all_ties_of_small_rings(self):
        for many in range(1, 7):
            for tie in all_ties(many):
                firsts = leaders(tie)
                self.assertIs(type(firsts), list)
                self.assertEqual(len(firsts), many)
                for one in range(many):
                    group = group_of(tie, one)
                    self.assertIn(group, tie[1])
                    self.assertIn(one, group)
                    self.assertEqual(firsts[one], min(group))
                    for other in range(many):
                        self.assertIs(tied(tie, one, other), other in group)

    def test_edges(self):
        self.assertEqual(group_of(finest(1), 0), (0,))
        self.assertIs(tied(finest(1), 0, 0), True)
        self.assertEqual(leaders(finest(1)), [0])
        self.assertEqual(leaders(finest(60)), list(range(60)))
        self.assertEqual(leaders(coarsest(60)), [0] * 60)
        self.assertEqual(group_of(coarsest(60), 59), tuple(range(60)))
        self.assertIs(tied(finest(60), 0, 59), False)
        self.assertIs(tied(coarsest(60), 59, 0), True)

    def test_leaders(self):
        self.assertEqual(leaders(made(6, [[0, 2, 3], [4, 5]])), [0, 1, 0, 0, 4, 4])

    def test_no_place(self):
        for tie, place in itertools.product([finest(5), coarsest(5)], NO_PLACES):
            with self.assertRaises(NoPlace):
                group_of(tie, place)
            with self.assertRaises(NoPlace):
                tied(tie, place, 0)
            with self.assertRaises(NoPlace):
                tied(tie, 0, place)
            with self.assertRaises(NoPlace):
                tied(tie, place, place)

    def test_no_place_at_the_ends_of_the_sizes(self):
        for tie, place in [(finest(1), 1), (coarsest(60), 60), (coarsest(60), -60), (finest(60), -1)]:
            with self.assertRaises(NoPlace):
                group_of(tie, place)


if __name__ == "__main__":
    unittest.main()
