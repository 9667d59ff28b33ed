"""Deeds: what they make of a row and of its gaps, and what leads back."""

from stirround.errors import Full, Gone, NoName, NoPlace, There
from stirround.names import MOST_THINGS, is_name


def place_of(row, name):
    if name not in row:
        raise Gone(name)
    return row.index(name)


def done(row, deed):
    check_deed(row, deed)
    if deed[0] == "put":
        return row_with(row, deed[1], deed[2])
    if deed[0] == "take":
        return row_without(row, deed[1])
    if deed[0] == "move":
        return row_with(row_without(row, deed[1]), deed[1], deed[2])
    return row_turned(row, deed[1], deed[2])


def undoing(row, deed):
    check_deed(row, deed)
    if deed[0] == "put":
        return ("take", deed[1])
    if deed[0] == "take":
        return ("put", deed[1], place_of(row, deed[1]))
    if deed[0] == "move":
        return ("move", deed[1], place_of(row, deed[1]))
    return ("turn", deed[1], deed[2])


def gap_behind(row, gap, deed):
    if not is_gap(row, gap):
        raise NoPlace(gap)
    check_deed(row, deed)
    return gap_led(row, gap, deed)


# Checks nothing: for gaps and deeds that are known to be right.
def gap_led(row, gap, deed):
    if deed[0] == "put":
        return gap_behind_put(gap, deed[2])
    if deed[0] == "take":
        return gap_behind_take(gap, place_of(row, deed[1]))
    if deed[0] == "move":
        return gap_behind_put(gap_behind_take(gap, place_of(row, deed[1])), deed[2])
    return gap


def is_gap(row, gap):
    return 0 <= gap <= len(row)


# Each check raises what the document tells first, so the order of its tests matters.
def check_deed(row, deed):
    if deed[0] == "put":
        check_put(row, deed[1], deed[2])
    elif deed[0] == "take":
        place_of(row, deed[1])
    elif deed[0] == "move":
        check_move(row, deed[1], deed[2])
    else:
        check_turn(row, deed[1], deed[2])


def check_put(row, name, at):
    if not is_name(name):
        raise NoName(name)
    if name in row:
        raise There(name)
    if not 0 <= at <= len(row):
        raise NoPlace(at)
    if len(row) >= MOST_THINGS:
        raise Full("the row has as many things as it can have")


def check_move(row, name, at):
    place_of(row, name)
    if not 0 <= at < len(row):
        raise NoPlace(at)


def check_turn(row, low, high):
    if not 0 <= low <= len(row):
        raise NoPlace(low)
    if not low <= high <= len(row):
        raise NoPlace(high)


def row_with(row, name, at):
    return list(row[:at]) + [name] + list(row[at:])


def row_without(row, name):
    return [thing for thing in row if thing != name]


def row_turned(row, low, high):
    return list(row[:low]) + list(reversed(row[low:high])) + list(row[high:])


# A thing put in at the gap itself stands ahead of it, so the gap stays.
def gap_behind_put(gap, at):
    if at < gap:
        return gap + 1
    return gap


def gap_behind_take(gap, place):
    if place < gap:
        return gap - 1
    return gap
