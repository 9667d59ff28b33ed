"""Twins: loops that no trial parts, and for all others a trial that does."""

from stirround.deeds import done, place_of
from stirround.errors import Full, StirError
from stirround.loops import check_loop, loop_led, step, things_to_come
from stirround.names import LETTERS

MOST_THINGS_TRIED = 37
MOST_ENTRIES = 100
STEP = ("step",)


def parted(row, one, other):
    check_pair(row, one, other)
    if are_twins(one, other):
        return None
    trial = trial_of(row, one, other)
    return (trial, told_in(row, one, trial), told_in(row, other, trial))


def trial_judged(row, one, other, trial, ones, others):
    check_pair(row, one, other)
    if not 1 <= len(trial) <= MOST_ENTRIES or trial[-1] != STEP:
        return False
    try:
        told = (told_in(row, one, trial), told_in(row, other, trial))
    except StirError:
        return False
    return told == (ones, others) and part_at_last(ones, others)


# A loop by "none" with one thing to come tells just this one, wherever its gap is.
def are_twins(one, other):
    if one[0] != other[0] or one[2] != other[2]:
        return False
    return one[1] == other[1] or (one[0] == "none" and len(one[2]) <= 1)


def check_pair(row, one, other):
    check_loop(row, one)
    check_loop(row, other)
    if len(row) > MOST_THINGS_TRIED:
        raise Full("the row has more things than a trial has room beside")


# Refused as the first deed of the trial that is.
def told_in(row, loop, trial):
    told = []
    for entry in trial:
        if entry == STEP:
            answer = step(row, loop)
            told.append(answer[0])
            loop = answer[1]
        else:
            behind = done(row, entry)
            loop = loop_led(row, loop, entry)
            row = behind
    return told


def part_at_last(ones, others):
    return ones[:-1] == others[:-1] and ones[-1] != others[-1]


def trial_of(row, one, other):
    if one[2] != other[2]:
        return trial_by_coming(row, one, other)
    if one[0] != other[0]:
        return trial_by_rule(row, one, other)
    return trial_by_gap(row, one, other)


# With one thing left in the row that just one of them has to come, the other one tells None.
def trial_by_coming(row, one, other):
    unlike = sorted(set(one[2]) ^ set(other[2]))
    return takes_of([thing for thing in row if thing != unlike[0]]) + [STEP]


# What is put in at the end joins by "ahead" and by "all". These two part at the first step, or their gaps are the same
# behind it and have a place behind them, at which what is put in joins by "all" alone.
def trial_by_rule(row, one, other):
    fresh = fresh_names(row)
    ahead = [("put", fresh[0], len(row))]
    if "none" in (one[0], other[0]):
        return ahead + takes_of(row) + [STEP]
    ahead.append(STEP)
    if told_in(row, one, ahead) != told_in(row, other, ahead):
        return ahead
    return ahead + [("put", fresh[1], 0)] + takes_of(row) + [("take", fresh[0]), STEP]


# What is put in at the lesser gap stands right ahead of this gap and behind the other one. So the loop with this gap
# tells it, and the other one does not: it has what is put in at the end to come ahead of its gap.
def trial_by_gap(row, one, other):
    gap = min(one[1], other[1])
    fresh = fresh_names(row)
    if one[0] == "none":
        return trial_by_turns(row, one, gap, fresh[0])
    return [("put", fresh[0], gap), ("put", fresh[1], len(row) + 1), STEP]


# Turns leave gaps where they are: they bring one thing to come right ahead of the lesser gap, and a later one to the
# end, which is ahead of both gaps once another thing was put in there.
def trial_by_turns(row, loop, gap, fresh):
    coming = things_to_come(row, loop)
    early = place_of(row, coming[0])
    late = place_of(row, coming[1])
    to_end = ("turn", late, len(row) + 1)
    to_gap = ("turn", min(early, gap), max(early, gap) + 1)
    return [("put", fresh, len(row)), to_end, to_gap, STEP]


def takes_of(things):
    return [("take", thing) for thing in things]


# More names than the row can have things, so that some are left.
def fresh_names(row):
    names = [letter + "a" for letter in LETTERS] + [letter + "b" for letter in LETTERS]
    return [name for name in names if name not in row]
