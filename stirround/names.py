"""Names and rows of names."""

LETTERS = "abcdefghijklmnopqrstuvwxyz"
MOST_LETTERS = 8
MOST_THINGS = 40


def is_name(text):
    return 1 <= len(text) <= MOST_LETTERS and all([sign in LETTERS for sign in text])


def is_row(some):
    return len(some) <= MOST_THINGS and all([is_name(text) for text in some]) and len(set(some)) == len(some)
