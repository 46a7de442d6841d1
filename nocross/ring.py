"""Ties turned, mirrored, and laid in the gaps of their ring."""

from nocross.errors import NoPlace
from nocross.ties import gathered, is_whole, leaders


def turned(tie, by):
    """Makes the tie in which each place has gone on round the ring."""
    if not is_whole(by):
        raise NoPlace("a tie is turned by whole numbers alone")
    many = tie[0]
    firsts = leaders(tie)
    return gathered([firsts[(place - by) % many] for place in range(many)])


def mirrored(tie):
    """Makes the tie in which the places stand the other way round."""
    return gathered(leaders(tie)[::-1])


def between(tie):
    """Makes the tie of the gaps, tied where no group has places in both parts."""
    many, groups = tie
    marks = list(range(many))
    for group in groups:
        # What has places both within and beyond the stretch from a group's
        # first place to its last one would cross it: so the gaps at both ends
        # are tied. These bonds leave as many groups of gaps as there must be.
        if group[0] > 0:
            marks[group[-1]] = marks[group[0] - 1]
    return gathered(marks)


def back(tie):
    """Makes the tie whose between is the one that is handed in."""
    # The between of a between is the tie turned by -1.
    return turned(between(tie), 1)
