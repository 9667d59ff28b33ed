"""Endings: whether a loop through a crowd ends, and how many things it tells, reckoned without running."""

from stirround.errands import check_crowd
from stirround.errors import Endless
from stirround.loops import check_rule

# The wheres that put things ahead of the gap.
WHERES_AHEAD = ("next", "last")


def ending(book, crowd, rule):
    check_rule(rule)
    check_crowd(book, crowd)
    found = way_and_ring(book, crowd, rule)
    if found is not None:
        return ("endless", found[0], found[1])
    return ("ends", table_of(book, crowd, rule))


def ending_judged(book, crowd, rule, ending):
    check_rule(rule)
    check_crowd(book, crowd)
    if ending[0] == "endless":
        return is_ring(book, rule, ending[2]) and is_way(book, crowd, rule, ending[1], ending[2][0])
    return way_and_ring(book, crowd, rule) is None and ending[1] == table_of(book, crowd, rule)


def reckoned(book, crowd, rule):
    check_rule(rule)
    check_crowd(book, crowd)
    check_ends(book, crowd, rule)
    known = known_rows(book, crowd, rule)
    rows = [known[word] for word in crowd]
    counts = sums_of([row[1] for row in rows], len(book.words()))
    rounds = max([row[2] for row in rows], default=0)
    return (tuple(counts), rounds, standing_behind(book, crowd, counts))


# By "ahead" nothing goes round: what is put in last forms a next wave, told behind all of the wave that put it in.
def nth(book, crowd, n):
    check_crowd(book, crowd)
    check_ends(book, crowd, "ahead")
    known = {}
    for wave in range(len(book.words())):
        branches = [(word, wave) for word in crowd]
        many = sum([many_told(book, branch, known) for branch in branches])
        if 0 <= n < many:
            return word_at(book, branches, n, known)
        n -= many
    return None


def check_ends(book, crowd, rule):
    if way_and_ring(book, crowd, rule) is not None:
        raise Endless("there is always something to come")


# The puts of the kind that are to come.
def comers_of(book, word, rule):
    if rule == "none":
        return []
    return [put for put in book.puts(word) if rule == "all" or put[0] in WHERES_AHEAD]


def way_and_ring(book, crowd, rule):
    settled = {}
    for word in crowd:
        found = ring_along(book, rule, [word], settled)
        if found is not None:
            return found
    return None


# A kind is settled where no ring comes of it, so that it is not looked at again.
def ring_along(book, rule, way, settled):
    if way[-1] in settled:
        return None
    for put in comers_of(book, way[-1], rule):
        if put[1] in way:
            first = way.index(put[1])
            return (way[:first + 1], way[first:])
        found = ring_along(book, rule, way + [put[1]], settled)
        if found is not None:
            return found
    settled[way[-1]] = True
    return None


def is_ring(book, rule, ring):
    return len(ring) > 0 and is_chain(book, rule, ring) and comes_of(book, rule, ring[-1], ring[0])


def is_way(book, crowd, rule, way, end):
    return len(way) > 0 and way[0] in crowd and way[-1] == end and is_chain(book, rule, way)


def is_chain(book, rule, chain):
    if len(set(chain)) != len(chain) or not all([word in book.words() for word in chain]):
        return False
    return all([comes_of(book, rule, one, other) for one, other in zip(chain, chain[1:])])


def comes_of(book, rule, one, other):
    return other in [put[1] for put in comers_of(book, one, rule)]


def table_of(book, crowd, rule):
    known = known_rows(book, crowd, rule)
    return [known[word] for word in book.words() if word in known]


def known_rows(book, crowd, rule):
    known = {}
    for word in crowd:
        reckon(book, word, rule, known)
    return known


def reckon(book, word, rule, known):
    if word in known:
        return
    comers = comers_of(book, word, rule)
    for put in comers:
        reckon(book, put[1], rule, known)
    counts = sums_of([known[put[1]][1] for put in comers], len(book.words()))
    counts[book.words().index(word)] += 1
    known[word] = (word, tuple(counts), max([1] + [rounds_to(put, known) for put in comers]))


def sums_of(many, length):
    return [sum([counts[number] for counts in many]) for number in range(length)]


# What is put in behind the gap is told when the loop has gone round once more.
def rounds_to(put, known):
    rounds = known[put[1]][2]
    if put[0] in WHERES_AHEAD:
        return rounds
    return rounds + 1


def standing_behind(book, crowd, counts):
    standing = []
    for number, word in enumerate(book.words()):
        put_in = sum([many * puts_in(book, other, word) for other, many in zip(book.words(), counts)])
        gone = counts[number] if book.goes(word) else 0
        standing.append(crowd.count(word) + put_in - gone)
    return tuple(standing)


def puts_in(book, word, kind):
    return len([put for put in book.puts(word) if put[1] == kind])


# A branch is a kind and a wave, counted from that of the thing itself: all that is told in this wave by one thing of
# the kind and what comes of it.
def many_told(book, branch, known):
    if branch not in known:
        many = sum([many_told(book, part, known) for part in parts_of(book, branch)])
        known[branch] = many + 1 if branch[1] == 0 else many
    return known[branch]


# A thing is told ahead of what it puts in next, so what it puts in last itself stands ahead in each wave.
def parts_of(book, branch):
    nexts = [(put[1], branch[1]) for put in book.puts(branch[0]) if put[0] == "next"]
    if branch[1] == 0:
        return nexts
    return [(put[1], branch[1] - 1) for put in book.puts(branch[0]) if put[0] == "last"] + nexts


def word_at(book, branches, n, known):
    number = 0
    while n >= many_told(book, branches[number], known):
        n -= many_told(book, branches[number], known)
        number += 1
    branch = branches[number]
    if branch[1] == 0:
        if n == 0:
            return branch[0]
        n -= 1
    return word_at(book, parts_of(book, branch), n, known)
