"""What several tests use: ties made by the words of the document alone."""

import copy
import itertools
import random

NO_WHOLE_NUMBERS = [True, False, "3", "", b"3", 3.0, 1.5, None, [], [3], (3,), {}, {3}]
BAD_COUNTS = [0, 61, -1, -60, 10 ** 5000, -10 ** 5000] + NO_WHOLE_NUMBERS


def partitions(many):
    """All ways to put the places in groups, crossing or not, in a tie's form."""
    found = [[]]
    for place in range(many):
        longer = []
        for groups in found:
            for at in range(len(groups)):
                longer.append(groups[:at] + [groups[at] + (place,)] + groups[at + 1:])
            longer.append(groups + [(place,)])
        found = longer
    return found


def least_crossing(groups):
    """The least four places at which groups cross, tried out one by one."""
    home = {place: at for at, group in enumerate(groups) for place in group}
    for a, b, c, d in itertools.combinations(sorted(home), 4):
        if home[a] == home[c] != home[b] == home[d]:
            return (a, b, c, d)
    return None


def all_ties(many):
    return [(many, groups) for groups in partitions(many) if least_crossing(groups) is None]


def is_place(many, place):
    return type(place) is int and 0 <= place < many


def is_tie(value):
    """Whether a value has the form that point 1 asks for."""
    if type(value) is not tuple or len(value) != 2:
        return False
    many, groups = value
    if type(many) is not int or not 1 <= many <= 60 or type(groups) is not list:
        return False
    for group in groups:
        if type(group) is not tuple or not group or list(group) != sorted(group):
            return False
        if not all(is_place(many, place) for place in group):
            return False
    if sorted(place for group in groups for place in group) != list(range(many)):
        return False
    if [group[0] for group in groups] != sorted(group[0] for group in groups):
        return False
    return not crosses(groups)


def crosses(groups):
    """Whether two groups cross: places of one lie in two stretches of the other."""
    for one, other in itertools.permutations(groups, 2):
        if len({sum(place < mark for place in one) % len(one) for mark in other}) > 1:
            return True
    return False


def like_tie(many, like):
    """The groups of places that are like each other, each pair asked."""
    groups = {tuple(other for other in range(many) if like(place, other)) for place in range(many)}
    return (many, sorted(groups))


def first_places(tie):
    """For each place the first one of its group, by the words of point 6."""
    return [min(group) for place in range(tie[0]) for group in tie[1] if place in group]


def lies_within(one, other):
    """Whether each group of one lies within a group of the other."""
    return all(any(set(group) <= set(wide) for wide in other[1]) for group in one[1])


def closed(many, groups):
    """The finest tie coarser than groups: what meets or crosses becomes one."""
    pools = [{place} for place in range(many)]
    for group in groups:
        grown = set(group)
        hit = [grown]
        while hit:
            hit = [pool for pool in pools if pool & grown or crosses([sorted(pool), sorted(grown)])]
            pools = [pool for pool in pools if pool not in hit]
            grown = grown.union(*hit)
        pools.append(grown)
    return (many, sorted(tuple(sorted(pool)) for pool in pools))


def some_ties(many, count, seed):
    """Some ties of a ring, the same ones in each run."""
    chance = random.Random(seed)
    ties = []
    for _ in range(count):
        groups = []
        pending = []
        for place in range(many):
            # To go on with a group ends each one that began behind it.
            while pending and chance.randrange(3) == 0:
                pending.pop()
            if pending and chance.randrange(2):
                pending[-1].append(place)
            else:
                pending.append([place])
                groups.append(pending[-1])
        ties.append((many, [tuple(group) for group in groups]))
    return ties


def tells_own(ask, *handed):
    """Whether what is told changes neither what is handed in nor what is told else."""
    before = copy.deepcopy(handed)
    first, second = ask(*handed), ask(*handed)
    expected = copy.deepcopy(first)
    first[1].clear()
    first[1].append("x")
    kept = handed == before and second == expected and ask(*handed) == expected
    for tie in handed:
        if isinstance(tie, tuple):
            tie[1].clear()
    return kept and second == expected and ask(*before) == expected
