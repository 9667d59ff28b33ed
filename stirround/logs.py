"""Logs: whether they are right, what stands behind them, and the tallies of their loops."""

from stirround.deeds import done
from stirround.errors import Gone, NoLog, StirError
from stirround.loops import RULES, begun, loop_led, loop_telling
from stirround.names import is_name


def first_wrong(row, log):
    try:
        course_of(row, log)
    except NoLog as refusal:
        return refusal.number
    return None


def state_behind(row, log):
    course = course_of(row, log)
    return (course.standing, course.running)


def tallied(row, log, loop):
    course = course_of(row, log)
    if loop not in course.tallies:
        raise Gone(loop)
    return course.tally_of(loop)


def course_of(row, log):
    course = Course(row)
    for number, entry in enumerate(log):
        if not course.follows(entry):
            raise NoLog(number)
    return course


# What stands behind the entries that were looked at so far. A tally stays when its loop is over, so that no other
# loop is begun by the same name.
class Course:
    def __init__(self, row):
        self.standing = list(row)
        self.running = {}
        self.tallies = {}

    def follows(self, entry):
        if entry[0] == "begin":
            return self.follows_begin(entry[1], entry[2])
        if entry[0] == "tell":
            return self.follows_tell(entry[1], entry[2])
        if entry[0] == "over":
            return self.follows_over(entry[1])
        return self.follows_deed(entry)

    def follows_begin(self, loop, rule):
        if not is_name(loop) or loop in self.tallies or rule not in RULES:
            return False
        self.running[loop] = begun(self.standing, rule)
        self.tallies[loop] = Tally(len(self.standing))
        return True

    def follows_tell(self, loop, name):
        if name not in self.coming(loop):
            return False
        self.running[loop] = loop_telling(self.standing, self.running[loop], name)
        tally = self.tallies[loop]
        tally.told += 1
        return True

    def follows_over(self, loop):
        if loop not in self.running or len(self.coming(loop)) > 0:
            return False
        self.running.pop(loop)
        return True

    def follows_deed(self, deed):
        try:
            behind = done(self.standing, deed)
        except StirError:
            return False
        for loop in list(self.running):
            self.lead(loop, deed)
        self.standing = behind
        return True

    def lead(self, loop, deed):
        many = len(self.coming(loop))
        self.running[loop] = loop_led(self.standing, self.running[loop], deed)
        tally = self.tallies[loop]
        if len(self.coming(loop)) > many:
            tally.joined += 1
        if len(self.coming(loop)) < many:
            tally.taken += 1

    # A loop that was never begun or is over has nothing to come.
    def coming(self, loop):
        if loop not in self.running:
            return ()
        return self.running[loop][2]

    def tally_of(self, loop):
        tally = self.tallies[loop]
        return (tally.stood, tally.joined, tally.told, tally.taken, len(self.coming(loop)))


class Tally:
    def __init__(self, stood):
        self.stood = stood
        self.joined = 0
        self.told = 0
        self.taken = 0
