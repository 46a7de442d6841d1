"""Points 13 and 14, with 1 and 2 as they hold of them: nocross.numbers."""

import itertools
import unittest

from nocross import numbers
from nocross.errors import BadCount, NoNumber
from nocross.numbers import counted, counted_by, number_of, tie_of
from nocross.ties import coarsest, finest, leaders, made
from rings import BAD_COUNTS, NO_WHOLE_NUMBERS, all_ties, first_places, is_tie, some_ties, tells_own

SMALL = range(1, 9)
FAR = 10 ** 5000


def counts_by_groups():
    """For each ring up to 60 places, how many ties have 0, 1, 2 and more groups.

    Place 0 stands alone, or the next place of its group parts the others in two rings.
    """
    rows = [[1] + [0] * 60]
    for many in range(1, 61):
        row = [0] + rows[many - 1][:60]
        for ahead in range(many - 1):
            for one, other in itertools.product(range(ahead + 1), range(1, many - ahead)):
                row[one + other] += rows[ahead][one] * rows[many - 1 - ahead][other]
        rows.append(row)
    return rows


def next_leaders(firsts):
    """The least leaders of a tie behind those, tried out by the form of a tie."""
    many = len(firsts)
    for place in range(many - 1, 0, -1):
        for first in range(firsts[place] + 1, place + 1):
            later = firsts[:place] + [first] + [0] * (many - place - 1)
            groups = [tuple(at for at in range(many) if later[at] == mark) for mark in sorted(set(later))]
            if is_tie((many, groups)) and first_places((many, groups)) == later:
                return later
    return None


class Interface(unittest.TestCase):
    def test_names_stand_in_the_file(self):
        for name in ["counted", "counted_by", "number_of", "tie_of"]:
            self.assertEqual(getattr(numbers, name).__module__, "nocross.numbers")

    def test_arguments_by_name(self):
        self.assertEqual(counted(many=3), 5)
        self.assertEqual(counted_by(many=3, groups=2), 3)
        self.assertEqual(number_of(tie=finest(2)), 1)
        self.assertEqual(tie_of(many=2, number=1), finest(2))

    def test_kinds_of_values(self):
        for value in [counted(1), counted(60), counted_by(2, 1), counted_by(2, 3), number_of(finest(1))]:
            self.assertIs(type(value), int)


class Counted(unittest.TestCase):
    """Point 13."""

    def test_counted_in_small_rings(self):
        self.assertEqual([counted(many) for many in range(1, 7)], [1, 2, 5, 14, 42, 132])
        for many in SMALL:
            self.assertEqual(counted(many), len(all_ties(many)))

    def test_counted_by_in_small_rings(self):
        self.assertEqual([counted_by(4, groups) for groups in range(1, 5)], [1, 6, 6, 1])
        for many in SMALL:
            sizes = [len(tie[1]) for tie in all_ties(many)]
            for groups in range(-1, many + 3):
                self.assertEqual(counted_by(many, groups), sizes.count(groups))

    def test_rings_up_to_60_places(self):
        rows = counts_by_groups()
        for many in range(1, 61):
            self.assertEqual(counted(many), sum(rows[many]))
            self.assertEqual([counted_by(many, groups) for groups in range(61)], rows[many])

    def test_the_largest_ring(self):
        self.assertEqual(counted(60), 1583850964596120042686772779038896)
        self.assertEqual(counted_by(60, 2), 60 * 59 // 2)
        self.assertEqual((counted_by(60, 1), counted_by(60, 60)), (1, 1))

    def test_groups_that_no_tie_has(self):
        for many in [1, 2, 30, 60]:
            for groups in [0, -1, -many, many + 1, 61, 62, 1000, FAR, -FAR]:
                if groups > many or groups < 1:
                    self.assertEqual(counted_by(many, groups), 0)

    def test_bad_count(self):
        for many in BAD_COUNTS:
            with self.assertRaises(BadCount, msg=repr(type(many))):
                counted(many)
            for groups in [-1, 0, 1, 2, 61, FAR]:
                with self.assertRaises(BadCount, msg=repr(type(many))):
                    counted_by(many, groups)

    def test_bad_count_of_groups(self):
        for many, groups in itertools.product([1, 2, 60], NO_WHOLE_NUMBERS):
            with self.assertRaises(BadCount, msg=repr(groups)):
                counted_by(many, groups)

    def test_two_faults(self):
        for many, groups in itertools.product(BAD_COUNTS, NO_WHOLE_NUMBERS):
            with self.assertRaises(BadCount):
                counted_by(many, groups)


class Numbers(unittest.TestCase):
    """Point 14."""

    def test_by_hand(self):
        self.assertEqual(number_of(made(3, [[0, 2]])), 2)
        told = [tie_of(3, number)[1] for number in range(5)]
        self.assertEqual(told, [
            [(0, 1, 2)], [(0, 1), (2,)], [(0, 2), (1,)], [(0,), (1, 2)], [(0,), (1,), (2,)],
        ])

    def test_there_and_back_in_small_rings(self):
        for many in SMALL:
            for number, tie in enumerate(sorted(all_ties(many), key=first_places)):
                self.assertEqual(number_of(tie), number)
                self.assertEqual(tie_of(many, number), tie)

    def test_the_first_and_the_last(self):
        for many in range(1, 61):
            last = counted(many) - 1
            self.assertEqual((tie_of(many, 0), number_of(coarsest(many))), (coarsest(many), 0))
            self.assertEqual((tie_of(many, last), number_of(finest(many))), (finest(many), last))

    def test_ties_of_large_rings(self):
        for tie in some_ties(60, 20, 21) + some_ties(37, 20, 22):
            number = number_of(tie)
            self.assertTrue(0 <= number < counted(tie[0]))
            self.assertEqual(tie_of(tie[0], number), tie)
            later = next_leaders(first_places(tie))
            self.assertEqual(leaders(tie_of(tie[0], number + 1)), later)
            self.assertEqual(number_of(tie_of(tie[0], number + 1)), number + 1)

    def test_numbers_of_large_rings(self):
        for many in [59, 60]:
            every = counted(many) // 40
            numbers_of_it = [at for step in range(40) for at in (step * every, step * every + 1)]
            ties = [tie_of(many, number) for number in numbers_of_it]
            self.assertTrue(all(is_tie(tie) and tie[0] == many for tie in ties))
            self.assertEqual([number_of(tie) for tie in ties], numbers_of_it)
            firsts = [first_places(tie) for tie in ties]
            self.assertEqual(firsts, sorted(firsts))

    def test_no_number(self):
        for many in [1, 2, 5, 60]:
            beyond = counted(many)
            for number in [-1, -beyond, beyond, beyond + 1, FAR, -FAR] + NO_WHOLE_NUMBERS:
                with self.assertRaises(NoNumber, msg=repr(type(number))):
                    tie_of(many, number)

    def test_bad_count(self):
        for many in BAD_COUNTS:
            with self.assertRaises(BadCount, msg=repr(type(many))):
                tie_of(many, 0)

    def test_the_count_is_refused_first(self):
        for many, number in itertools.product(BAD_COUNTS, [-1, FAR, -FAR] + NO_WHOLE_NUMBERS):
            with self.assertRaises(BadCount):
                tie_of(many, number)


class Kept(unittest.TestCase):
    """Point 2, for nocross.numbers."""

    def test_a_tie_that_is_asked_of_stays(self):
        for tie in [finest(1), coarsest(4), made(5, [[0, 4], [1, 2]])]:
            before = (tie[0], list(tie[1]))
            number_of(tie)
            self.assertEqual(tie, before)

    def test_ties_told_have_lists_of_their_own(self):
        for many in range(1, 5):
            for number in range(counted(many)):
                self.assertTrue(tells_own(tie_of, many, number))

    def test_a_tie_told_and_changed_changes_no_number(self):
        tie = tie_of(4, 9)
        tie[1].clear()
        self.assertEqual(number_of(tie_of(4, 9)), 9)
        self.assertEqual((counted(4), counted_by(4, 2)), (14, 6))
        self.assertEqual((tie_of(4, 0), tie_of(4, 13)), (coarsest(4), finest(4)))


if __name__ == "__main__":
    unittest.main()
