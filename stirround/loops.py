"""Loops: tuples (rule, gap, coming) that are led through deeds and step."""

from stirround.deeds import check_deed, gap_led, is_gap, place_of
from stirround.errors import NoLoop, NoRule, TooMany

RULES = ("none", "ahead", "all")
MOST_LOOPS = 12


def is_loop(row, thing):
    return thing[0] in RULES and is_gap(row, thing[1]) and is_coming(row, thing[2])


def begun(row, rule):
    check_rule(rule)
    return (rule, 0, tuple(sorted(row)))


def led(row, loop, deed):
    check_loop(row, loop)
    check_deed(row, deed)
    return loop_led(row, loop, deed)


def step(row, loop):
    order = rest(row, loop)
    if order == []:
        return (None, loop)
    return (order[0], loop_telling(row, loop, order[0]))


# A loop goes round once at most if nothing else is done, so no stepping is needed.
def rest(row, loop):
    check_loop(row, loop)
    gap = loop[1]
    return things_to_come(row[gap:], loop) + things_to_come(row[:gap], loop)


# Checks nothing, so that a log can lead many loops through a deed that it has looked at once.
def loop_led(row, loop, deed):
    return (loop[0], gap_led(row, loop[1], deed), coming_behind(loop, deed))


def loop_telling(row, loop, name):
    return (loop[0], place_of(row, name) + 1, coming_without(loop[2], name))


def check_rule(rule):
    if rule not in RULES:
        raise NoRule(rule)


def check_loop(row, loop):
    if not is_loop(row, loop):
        raise NoLoop("no loop of the row")


# Their number goes first: it is the one refusal that stands ahead of NoLoop.
def check_loops(row, loops):
    if len(loops) > MOST_LOOPS:
        raise TooMany("more loops than can be looked at together")
    for loop in loops:
        check_loop(row, loop)


def is_coming(row, coming):
    return list(coming) == sorted(set(coming)) and all([name in row for name in coming])


def things_to_come(things, loop):
    return [name for name in things if name in loop[2]]


def coming_behind(loop, deed):
    if deed[0] == "take":
        return coming_without(loop[2], deed[1])
    if deed[0] == "put" and joins(loop, deed[2]):
        return tuple(sorted(loop[2] + (deed[1],)))
    return loop[2]


def coming_without(coming, gone):
    return tuple([name for name in coming if name != gone])


def joins(loop, at):
    return loop[0] == "all" or (loop[0] == "ahead" and at >= loop[1])
