"""Hidden lines: orders of the things in which loops are gaps, as few as can be."""

from stirround.loops import check_loops


def lines_of(row, loops):
    check_loops(row, loops)
    above = [numbers_above(loops, number) for number in range(len(loops))]
    lower_of = greatest_pairing(above)
    chains = [chain_down(lower_of, top) for top in range(len(loops)) if top not in lower_of]
    lines = [line_of(row, loops, chain) for chain in chains]
    return (lines, seats_of(row, loops, chains), apart_of(above, lower_of, chains))


# As many loops apart as lines show that fewer lines do not do, so no other lines are looked at.
def lines_judged(row, loops, lines, seats, apart):
    check_loops(row, loops)
    return are_lines(row, lines) and are_seats(loops, lines, seats) and are_apart(loops, lines, apart)


def has_all_of(loop, other):
    return len(set(other[2]) - set(loop[2])) == 0


def fit_one_line(one, other):
    return has_all_of(one, other) or has_all_of(other, one)


# Loops alike stand above one another by their numbers, so that no chain runs in a ring.
def is_above(loops, number, upper):
    if loops[number][2] == loops[upper][2]:
        return number < upper
    return has_all_of(loops[upper], loops[number])


def numbers_above(loops, number):
    return [upper for upper in range(len(loops)) if is_above(loops, number, upper)]


# Told by the upper one of each pair: the number of its lower one, None where it has none.
def greatest_pairing(above):
    lower_of = [None for uppers in above]
    for number in range(len(above)):
        finds_upper(number, above, lower_of, {})
    return lower_of


# Others give way where they find another upper one for themselves; each upper one is tried once.
def finds_upper(number, above, lower_of, tried):
    for upper in above[number]:
        if upper not in tried:
            tried[upper] = True
            if lower_of[upper] is None or finds_upper(lower_of[upper], above, lower_of, tried):
                lower_of[upper] = number
                return True
    return False


def chain_down(lower_of, top):
    chain = [top]
    while lower_of[chain[-1]] is not None:
        chain.append(lower_of[chain[-1]])
    return chain


# The more loops of the chain have a thing to come, the later it stands.
def line_of(row, loops, chain):
    return sorted(row, key=lambda thing: len([number for number in chain if thing in loops[number][2]]))


def seats_of(row, loops, chains):
    line_with = {}
    for line, chain in enumerate(chains):
        for number in chain:
            line_with[number] = line
    return [(line_with[number], len(row) - len(loop[2])) for number, loop in enumerate(loops)]


# No top finds an upper one any more, so these searches pair nothing, and no loop at the foot of a chain is tried, else
# it were paired. Loops right below tried ones are searched from, too: so would two told ones fit, the upper one of them
# would have been tried from the lower one.
def apart_of(above, lower_of, chains):
    tried = {}
    for chain in chains:
        finds_upper(chain[0], above, lower_of, tried)
    return sorted([uppermost_untried(chain, tried) for chain in chains])


def uppermost_untried(chain, tried):
    untried = [number for number in chain if number not in tried]
    return untried[0]


def are_lines(row, lines):
    return all([sorted(line) == sorted(row) for line in lines])


def are_seats(loops, lines, seats):
    if len(seats) != len(loops):
        return False
    return all([is_seat(lines, loop, seat) for loop, seat in zip(loops, seats)])


def is_seat(lines, loop, seat):
    if not 0 <= seat[0] < len(lines):
        return False
    line = lines[seat[0]]
    return seat[1] == len(line) - len(loop[2]) and sorted(line[seat[1]:]) == list(loop[2])


def are_apart(loops, lines, apart):
    if len(apart) != len(lines) or apart != sorted(set(apart)):
        return False
    if not all([0 <= number < len(loops) for number in apart]):
        return False
    return not any([fits_a_later_one(loops, number, apart) for number in apart])


def fits_a_later_one(loops, number, apart):
    return any([fit_one_line(loops[number], loops[later]) for later in apart if later > number])
