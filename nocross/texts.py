"""Ties as texts of one sign for each place."""

from nocross.errors import NoText
from nocross.ties import MOST, gathered


def _sign(group, place):
    """Finds the sign of a place of a group."""
    if len(group) == 1:
        return "."
    if place == group[0]:
        return "("
    if place == group[-1]:
        return ")"
    return "-"


def told(tie):
    """Tells a tie as a text."""
    many, groups = tie
    signs = [""] * many
    for group in groups:
        for place in group:
            signs[place] = _sign(group, place)
    return "".join(signs)


def _first(pending, place, sign):
    """Finds the first place of a place's group, by its sign."""
    if sign == "." or sign == "(":
        return place
    if sign not in ("-", ")") or len(pending) == 0:
        raise NoText("a sign tells of no group")
    # As groups do not cross, only the one that began last can go on.
    return pending[-1]


def read(text):
    """Makes the tie that is told so."""
    if not isinstance(text, str) or len(text) < 1 or len(text) > MOST:
        raise NoText(f"this is no text of 1 to {MOST} signs")
    firsts = []
    pending = []
    for place, sign in enumerate(text):
        firsts.append(_first(pending, place, sign))
        if sign == "(":
            pending.append(place)
        elif sign == ")":
            pending.pop()
    if len(pending) > 0:
        raise NoText("a group has no last place")
    return gathered(firsts)
