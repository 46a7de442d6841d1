"""Ties: the places of a ring in groups that do not cross."""

from nocross.errors import BadCount, BadGroup, Crossed, NoPlace, Twice

MOST = 60


def is_whole(value):
    """Tells whether a value is a whole number."""
    # To Python True and False are integers, to the document they are not.
    return isinstance(value, int) and not isinstance(value, bool)


def check_count(many):
    """Refuses what is no count of places."""
    if not is_whole(many) or many < 1 or many > MOST:
        raise BadCount(f"the count of places is no whole number from 1 to {MOST}")


def _check_group(many, group):
    """Refuses what is no group of places of the ring."""
    if not isinstance(group, (list, tuple)):
        raise BadGroup("a group is no list or tuple")
    if len(group) == 0:
        raise BadGroup("a group is empty")
    for place in group:
        if not is_whole(place) or place < 0 or place >= many:
            raise BadGroup("a group has something that is no place of the ring")


def _checked(many, groups):
    """Lists the groups that are handed in as rising tuples, none refused."""
    check_count(many)
    rising = []
    used = [False] * many
    for group in groups:
        _check_group(many, group)
        for place in group:
            if used[place]:
                raise Twice("a place stands in the groups twice")
            used[place] = True
        rising.append(tuple(sorted(group)))
    return rising


def _homes(groups):
    """Gives each place that stands in a group that group."""
    return {place: group for group in groups for place in group}


def _first_above(group, place):
    """Finds the first place of a rising group above a place, or None."""
    for later in group:
        if later > place:
            return later
    return None


def _crossing_from(homes, a, b):
    """Finds the least crossing that begins with a and b, or None."""
    if homes[a] == homes[b]:
        return None
    # A later c leaves less room for d, so the least c alone decides.
    c = _first_above(homes[a], b)
    if c is None:
        return None
    d = _first_above(homes[b], c)
    if d is None:
        return None
    return (a, b, c, d)


def _least_crossing(groups):
    """Finds the least crossing of rising groups, or None."""
    homes = _homes(groups)
    places = sorted(homes)
    for at, a in enumerate(places):
        for b in places[at + 1:]:
            found = _crossing_from(homes, a, b)
            if found is not None:
                return found
    return None


def gathered(marks):
    """Makes the tie in which places of like marks stand in one group."""
    groups = {}
    for place, mark in enumerate(marks):
        groups.setdefault(mark, []).append(place)
    return (len(marks), [tuple(group) for group in groups.values()])


def made(many, groups):
    """Makes a tie of groups; a place in none of them is a group by itself."""
    rising = _checked(many, groups)
    if _least_crossing(rising) is not None:
        raise Crossed("two groups cross")
    homes = _homes(rising)
    alone = [(place,) for place in range(many) if place not in homes]
    return (many, sorted(rising + alone))


def crossing(many, groups):
    """Finds the least four places at which two groups cross, or None."""
    return _least_crossing(_checked(many, groups))


def finest(many):
    """Makes the tie in which each place is a group by itself."""
    check_count(many)
    return (many, [(place,) for place in range(many)])


def coarsest(many):
    """Makes the tie of one group."""
    check_count(many)
    return (many, [tuple(range(many))])


def group_of(tie, place):
    """Finds the group that has a place."""
    if is_whole(place):
        for group in tie[1]:
            if place in group:
                return group
    raise NoPlace("this is no place of the ring")


def tied(tie, one, other):
    """Tells whether two places stand in one group."""
    group = group_of(tie, one)
    return group == group_of(tie, other)


def leaders(tie):
    """Lists for each place the first place of its group."""
    many, groups = tie
    firsts = [0] * many
    for group in groups:
        for place in group:
            firsts[place] = group[0]
    return firsts
