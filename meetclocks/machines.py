"""The calls: load, way, least, stuck."""

from meetclocks.moves import World, place_at
from meetclocks.reading import read_asks, read_text
from meetclocks.search import Search, least_units
from meetclocks.words import text_of

LOAD = 1
WAY = 2
LEAST = 3
STUCK = 4

LONGEST_TEXT = 4096
LONGEST_ASKS = 256
MOST_STEPS = 65536

OUT_OF_RANGE = -1
NOTHING_TAKEN = -2
TOO_MANY_STATES = -3
TOO_LONG = -4
WRONG_ASK = -5
NO_WAY = -6


class Desk:
    """The object that calls are made on: what was taken, and what was found out about it so far."""

    def __init__(self):
        self.told = None
        self.found = None
        self.units = None

    def load(self, numbers):
        """Answer the call load."""
        if len(numbers) > LONGEST_TEXT:
            return [OUT_OF_RANGE]
        reading = read_text(text_of(numbers))
        self.told = reading.told if reading.answer == 0 else None
        self.found = None
        self.units = None
        return [reading.answer]

    def way(self, most, numbers):
        """Answer the call way."""
        refused = self.refusal(most, numbers)
        if refused < 0:
            return [refused]
        return self.steps_to(first_asked(self.search().firsts, self.asked_places(numbers)), most)

    def least(self, numbers):
        """Answer the call least."""
        refused = self.refusal(0, numbers)
        if refused < 0:
            return [refused]
        if self.units is None:
            self.units = least_units(self.search().world)
        units = first_asked(self.units, self.asked_places(numbers))
        return [NO_WAY if units < 0 else units]

    def stuck(self, most):
        """Answer the call stuck."""
        refused = self.refusal(most, [])
        if refused < 0:
            return [refused]
        return self.steps_to(self.search().first_stuck, most)

    def refusal(self, most, numbers):
        """Answer the first refusal that fits of those that all calls but load share, or 0."""
        if self.told is None:
            return NOTHING_TAKEN
        if len(numbers) > LONGEST_ASKS or most < 0 or most > MOST_STEPS:
            return OUT_OF_RANGE
        if self.asked_places(numbers) is None:
            return WRONG_ASK
        if self.search().has_too_many():
            return TOO_MANY_STATES
        return 0

    def asked_places(self, numbers):
        """Answer what the bytes ask for, or None if one of the asks is wrong."""
        return read_asks(self.told, text_of(numbers))

    def search(self):
        """Answer the search through the states, made when it is asked for first."""
        if self.found is None:
            self.found = Search(World(self.told))
        return self.found

    def steps_to(self, at, most):
        """Answer the way to the state with this number, below 0 if there's none."""
        if at < 0:
            return [NO_WAY]
        steps = self.search().way_to(at)
        if len(steps) > most:
            return [TOO_LONG]
        answer = [len(steps)]
        for step in steps:
            answer.extend(step)
        return answer


def first_asked(by_spot, asked):
    """Answer what is kept of the first spot at which all asks hold, or -1."""
    for spot in by_spot:
        if all([place_at(spot, machine) == place for machine, place in asked]):
            return by_spot[spot]
    return -1


class Call:
    """One call in the list: its number, its most if it has one, its row if it has one."""

    def __init__(self, calls, at):
        self.number = calls[at]
        self.most = 0
        self.row = []
        self.behind = at + 1
        if self.number in (WAY, STUCK):
            self.most = calls[self.behind]
            self.behind += 1
        if self.number in (LOAD, WAY, LEAST):
            begin = self.behind + 1
            self.behind = begin + calls[self.behind]
            self.row = calls[begin:self.behind]


def answers(calls):
    """Make the calls on a new object; answer of each how many numbers it answers, and these."""
    desk = Desk()
    numbers = []
    at = 0
    while at < len(calls):
        call = Call(calls, at)
        answer = answer_of(desk, call)
        numbers.append(len(answer))
        numbers.extend(answer)
        at = call.behind
    return numbers


def answer_of(desk, call):
    """Make one call; answer its numbers."""
    if call.number == LOAD:
        return desk.load(call.row)
    if call.number == WAY:
        return desk.way(call.most, call.row)
    if call.number == LEAST:
        return desk.least(call.row)
    return desk.stuck(call.most)
