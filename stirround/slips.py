"""Slips: a gap and marks that show some things of a row, and pairs that show that fewer marks do not do."""

from stirround.deeds import is_gap, place_of
from stirround.loops import is_coming


def shown(row, slip):
    gap = slip[0]
    marks = slip[1]
    behind = [thing for thing in row[:gap] if thing in marks]
    ahead = [thing for thing in row[gap:] if thing not in marks]
    return behind + ahead


# Along the row each thing that is not to come is paired with one to come that is not paired yet. With the gap right
# behind the last one that finds none, all marked things are in pairs, one of each: so there are as many as pairs.
def least_slip(row, coming):
    check_coming(row, coming)
    gap = 0
    unpaired = []
    pairs = []
    for place, thing in enumerate(row):
        if thing in coming:
            unpaired.append(thing)
        elif unpaired == []:
            gap = place + 1
        else:
            pairs.append((unpaired.pop(), thing))
    return ((gap, marks_at(row, gap, coming)), pairs)


def least_marks(row, coming):
    pairs = least_slip(row, coming)[1]
    return len(pairs)


# As many pairs as marks show that no slip has fewer, so no other slip is looked at.
def slip_judged(row, coming, slip, pairs):
    if not is_slip(row, slip) or sorted(shown(row, slip)) != sorted(coming):
        return False
    return len(pairs) == len(slip[1]) and are_unlike(pairs) and all([is_pair(row, coming, pair) for pair in pairs])


def is_slip(row, slip):
    return is_gap(row, slip[0]) and is_coming(row, slip[1])


def check_coming(row, coming):
    for name in coming:
        place_of(row, name)


def marks_at(row, gap, coming):
    behind = [thing for thing in row[:gap] if thing in coming]
    ahead = [thing for thing in row[gap:] if thing not in coming]
    return tuple(sorted(behind + ahead))


def are_unlike(pairs):
    things = [pair[0] for pair in pairs] + [pair[1] for pair in pairs]
    return len(set(things)) == len(things)


def is_pair(row, coming, pair):
    one = pair[0]
    other = pair[1]
    if one not in coming or other in coming or other not in row:
        return False
    return place_of(row, one) < place_of(row, other)
