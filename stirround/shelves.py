"""Shelves: walks along halls whose shelves are doubled and halved under way."""

MOST_BITS = 8
END = (0, 1)


def turned(n, m):
    answer = 0
    for bit in range(m):
        answer = 2 * answer + n % 2
        n = n // 2
    return answer


def is_mark(thing):
    m = thing[0]
    j = thing[1]
    if not 0 <= m <= MOST_BITS or not 0 <= j <= power_of_two(m):
        return False
    return m == 0 or j % 2 == 1


# Without its last bit a number turned about is less than half of an even j just where it was less than j.
def mark_of(m, j):
    while m > 0 and j % 2 == 0:
        m -= 1
        j = j // 2
    return (m, j)


def is_behind(mark, n):
    return turned(n, mark[0]) < mark[1]


def walked(k, numbers, mark):
    if mark == END:
        return ([], END)
    new = mark_behind(k, mark)
    return ([n for n in numbers if is_behind(new, n) and not is_behind(mark, n)], new)


# Just whole shelves lie behind a mark that can be told by k bits.
def mark_behind(k, mark):
    shelves_behind = mark[1] * power_of_two(k) // power_of_two(mark[0])
    return mark_of(k, shelves_behind + 1)


def power_of_two(exponent):
    answer = 1
    for turn in range(exponent):
        answer = 2 * answer
    return answer
