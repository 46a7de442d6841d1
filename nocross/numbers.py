"""How many ties there are, and the ties of a ring in order."""

from math import comb

from nocross.errors import BadCount, NoNumber
from nocross.ties import check_count, gathered, is_whole, leaders


def _endings(left, deep):
    """Counts the ways to go on by left places behind a pile of deep groups."""
    # The pile has the groups that the next place may join, the last begun on
    # top. To join one, the place takes off all down to it and puts it on again;
    # else it puts a new one on. Taken as steps down and up, the ways to go on
    # are the walks from the height deep to 0, never below it, with left steps
    # up: these are counted by the ballot numbers.
    return (deep + 1) * comb(2 * left + deep, left) // (left + deep + 1)


def counted(many):
    """Counts the ties of a ring."""
    check_count(many)
    return _endings(many, 0)


def counted_by(many, groups):
    """Counts the ties of a ring that have so many groups."""
    check_count(many)
    if not is_whole(groups):
        raise BadCount("the count of groups is no whole number")
    if groups < 1 or groups > many:
        return 0
    return comb(many, groups) * comb(many, groups - 1) // many


def number_of(tie):
    """Finds the place of a tie in the order by leaders."""
    many = tie[0]
    number = 0
    pile = []
    for place, first in enumerate(leaders(tie)):
        left = many - place - 1
        pile = [lower for lower in pile if lower < first]
        # A tie whose place joins one of these instead stands ahead of this one.
        number += sum(_endings(left, at + 1) for at in range(len(pile)))
        pile.append(first)
    return number


def tie_of(many, number):
    """Makes the tie at a place in the order by leaders."""
    check_count(many)
    if not is_whole(number) or number < 0 or number >= counted(many):
        raise NoNumber("no tie of the ring has this number")
    firsts = []
    pile = []
    ahead = number
    for place in range(many):
        left = many - place - 1
        at = 0
        while at < len(pile) and ahead >= _endings(left, at + 1):
            ahead -= _endings(left, at + 1)
            at += 1
        first = (pile + [place])[at]
        pile = pile[:at] + [first]
        firsts.append(first)
    return gathered(firsts)
