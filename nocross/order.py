"""Finer and coarser ties of one ring."""

from nocross.errors import NotFiner, Unlike
from nocross.ties import gathered, leaders


def _check_alike(one, other):
    """Refuses two ties that have unlike counts of places."""
    if one[0] != other[0]:
        raise Unlike("the ties have unlike counts of places")


def _bonds(tie):
    """Lists the pairs of places that follow each other in a group."""
    return [bond for group in tie[1] for bond in zip(group, group[1:])]


def _keeps_clear(group, low, high):
    """Tells whether a group neither has nor parts the places low and high."""
    inside = all(low < place < high for place in group)
    outside = all(place < low or place > high for place in group)
    return inside or outside


def _bound(groups, low, high):
    """Lists the groups of the finest coarser tie that ties low and high."""
    # A group that keeps clear does not cross the new one: low, high and each
    # group drawn in lie all between the same two places of it.
    drawn = []
    kept = []
    for group in groups:
        if _keeps_clear(group, low, high):
            kept.append(group)
        else:
            drawn.extend(group)
    kept.append(tuple(sorted(drawn)))
    return sorted(kept)


def finer(one, other):
    """Tells whether each group of one lies within a group of the other."""
    _check_alike(one, other)
    firsts = leaders(other)
    return all(firsts[low] == firsts[high] for low, high in _bonds(one))


def shared(one, other):
    """Makes the coarsest tie that is finer than both."""
    _check_alike(one, other)
    return gathered(list(zip(leaders(one), leaders(other))))


def joined(one, other):
    """Makes the finest tie that is coarser than both."""
    _check_alike(one, other)
    groups = list(one[1])
    for low, high in _bonds(other):
        groups = _bound(groups, low, high)
    return (one[0], groups)


def way(one, other):
    """Lists ties from one to the other, each with one group less."""
    if not finer(one, other):
        raise NotFiner("the one is not finer than the other")
    many, groups = one
    steps = [(many, list(groups))]
    for low, high in _bonds(other):
        # No group parts these two, as it would cross theirs in other: so just
        # their own two groups become one, or they are tied as it is.
        bound = _bound(groups, low, high)
        if len(bound) < len(groups):
            groups = bound
            steps.append((many, groups))
    return steps
