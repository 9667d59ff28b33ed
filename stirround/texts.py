"""Texts: rows, deeds, logs and tickets, written and read."""

from stirround.errors import NoText
from stirround.loops import RULES
from stirround.names import is_name, is_row

FIGURES = "0123456789"
MOST_FIGURES = 60
MOST_ENTRIES = 400
# The words behind the first word of each entry of a log.
FORMS = {
    "put": ("name", "number"),
    "take": ("name",),
    "move": ("name", "number"),
    "turn": ("number", "number"),
    "begin": ("name", "rule"),
    "tell": ("name", "name"),
    "over": ("name",),
}
# The words of a ticket ahead of its marks.
TICKET_FORM = ("number", "rule", "number", "number")


def row_text(row):
    if len(row) == 0:
        return "-"
    return " ".join(row)


def deed_text(deed):
    return " ".join([str(part) for part in deed])


def log_text(row, log):
    return "\n".join([row_text(row)] + [deed_text(entry) for entry in log])


def ticket_text(ticket):
    slip = ticket[3]
    return " ".join([str(part) for part in ticket[:3]] + [str(slip[0])] + list(slip[1]))


def read_log(text):
    lines = text.split("\n")
    row = read_row(lines[0])
    return (row, [read_entry(line, number) for number, line in enumerate(lines[1:], start=1)])


def read_ticket(text):
    words = text.split(" ")
    many = len(TICKET_FORM)
    marks = words[many:]
    if not fit(words[:many], TICKET_FORM) or not are_marks(marks):
        raise NoText(0)
    values = values_of(words[:many], TICKET_FORM)
    return (values[0], values[1], values[2], (values[3], tuple(marks)))


def read_row(line):
    row = [] if line == "-" else line.split(" ")
    if not is_row(row):
        raise NoText(0)
    return row


def read_entry(line, number):
    words = line.split(" ")
    if number > MOST_ENTRIES or words[0] not in FORMS or not fit(words[1:], FORMS[words[0]]):
        raise NoText(number)
    return tuple(words[:1] + values_of(words[1:], FORMS[words[0]]))


def fit(words, form):
    return len(words) == len(form) and all([fits(word, kind) for word, kind in zip(words, form)])


# Of the kind "word" is any word: for the desk, whose yard looks at names and rules itself.
def fits(word, kind):
    if kind == "word":
        return True
    if kind == "name":
        return is_name(word)
    if kind == "rule":
        return word in RULES
    return is_number(word)


def is_number(word):
    if not 1 <= len(word) <= MOST_FIGURES or not all([sign in FIGURES for sign in word]):
        return False
    return word == "0" or word[0] != "0"


def values_of(words, form):
    return [int(word) if kind == "number" else word for word, kind in zip(words, form)]


def are_marks(words):
    return words == sorted(set(words)) and all([is_name(word) for word in words])
