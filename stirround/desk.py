"""The desk: a yard that is told rows of words and answers each with a text."""

from stirround.brands import brands
from stirround.errors import NoRow
from stirround.lines import lines_of
from stirround.loops import rest
from stirround.slips import least_marks
from stirround.texts import fit, is_number, read_ticket, row_text, ticket_text, values_of
from stirround.twins import are_twins
from stirround.yards import Yard

MOST_OF_PAGE = 60
# The words behind the first word of each row that has a set number of them. Names and rules are looked at by the yard.
FORMS = {
    "put": ("word", "number"),
    "take": ("word",),
    "move": ("word", "number"),
    "turn": ("number", "number"),
    "show": (),
    "begin": ("word", "word"),
    "step": ("word",),
    "drop": ("word",),
    "rest": ("word",),
    "loops": (),
    "marks": ("word",),
    "brands": (),
    "lines": (),
    "twins": ("word", "word"),
    "ticket": ("word",),
    "forget": ("number",),
}


def do_deed(yard, values):
    yard.act(tuple(values))
    return "ok"


def tell_row(yard, values):
    return row_text(yard.row())


def begin_loop(yard, values):
    yard.begin(values[1], values[2])
    return "ok"


def step_loop(yard, values):
    told = yard.step(values[1])
    return "-" if told is None else told


def drop_loop(yard, values):
    yard.drop(values[1])
    return "ok"


def tell_rest(yard, values):
    return row_text(rest(yard.row(), yard.loop(values[1])))


def tell_loops(yard, values):
    return row_text(yard.loops())


def count_marks(yard, values):
    return str(least_marks(yard.row(), yard.loop(values[1])[2]))


def count_brands(yard, values):
    numbers = brands(yard.row(), kept_loops(yard))[0]
    return str(len(set(numbers)))


def count_lines(yard, values):
    return str(len(lines_of(yard.row(), kept_loops(yard))[0]))


def judge_twins(yard, values):
    one = yard.loop(values[1])
    other = yard.loop(values[2])
    return "yes" if are_twins(one, other) else "no"


def give_ticket(yard, values):
    return ticket_text(yard.ticket(values[1]))


def forget_deeds(yard, values):
    yard.forget(values[1])
    return "ok"


ANSWERS = {
    "put": do_deed,
    "take": do_deed,
    "move": do_deed,
    "turn": do_deed,
    "show": tell_row,
    "begin": begin_loop,
    "step": step_loop,
    "drop": drop_loop,
    "rest": tell_rest,
    "loops": tell_loops,
    "marks": count_marks,
    "brands": count_brands,
    "lines": count_lines,
    "twins": judge_twins,
    "ticket": give_ticket,
    "forget": forget_deeds,
}


class Desk:
    def __init__(self):
        self.yard = Yard([])

    def say(self, row):
        words = row.split(" ")
        check_words(words)
        if words[0] == "row":
            self.yard = Yard(words[1:])
            return "ok"
        if words[0] == "page":
            return give_page(self.yard, words)
        return ANSWERS[words[0]](self.yard, words[:1] + values_of(words[1:], FORMS[words[0]]))


def give_page(yard, words):
    answer = yard.page(read_ticket(" ".join(words[2:])), int(words[1]))
    return row_text(answer[0]) + " ; " + ticket_text(answer[1])


def kept_loops(yard):
    return [yard.loop(name) for name in yard.loops()]


def check_words(words):
    if "" in words or not is_row_of_desk(words):
        raise NoRow("no row that the desk knows")


def is_row_of_desk(words):
    if words[0] == "row":
        return True
    if words[0] == "page":
        return len(words) > 2 and is_number(words[1]) and int(words[1]) <= MOST_OF_PAGE
    return words[0] in FORMS and fit(words[1:], FORMS[words[0]])
