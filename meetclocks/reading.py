"""Reads a text line by line, and the asks."""

from meetclocks.told import BEYOND, GIVES, TAKES, Edge, Machine, Told
from meetclocks.words import is_name, words_of

MOST_CLOCKS = 4
MOST_SIGNALS = 8
MOST_MACHINES = 3
MOST_PLACES = 8
MOST_EDGES = 16
HIGHEST_NUMBER = 15
MOST_DIGITS = 2


class Reading:
    """What came of a text: what load answers, and what was told."""

    def __init__(self, answer, told):
        self.answer = answer
        self.told = told


def read_text(text):
    """Read the whole text, as far as its lines are as they should be."""
    told = Told()
    for number, line in enumerate(text.split("\n"), start=1):
        words = words_of(line)
        if words != [] and not take_line(told, words):
            return Reading(number + 1, told)
    if told.machines == [] or told.machines[-1].places == {}:
        return Reading(1, told)
    return Reading(0, told)


def take_line(told, words):
    """Take a line into what is told; answer False if it isn't as it should be."""
    if words[0] == "clock":
        return take_ahead(told, told.clocks, MOST_CLOCKS, words)
    if words[0] == "signal":
        return take_ahead(told, told.signals, MOST_SIGNALS, words)
    if words[0] == "machine":
        return take_machine(told, words)
    # What else there is belongs to the machine that was told last.
    if told.machines == []:
        return False
    if words[0] == "place":
        return take_place(told, told.machines[-1], words)
    if words[0] == "edge":
        return take_edge(told, told.machines[-1], words)
    return False


def take_name(numbers, most, word):
    """Give the name the next number; answer False if it's no new name, or one too many."""
    if not is_name(word) or word in numbers or len(numbers) >= most:
        return False
    numbers[word] = len(numbers)
    return True


def take_ahead(told, numbers, most, words):
    """Take a clock or a signal, that stand ahead of all machines."""
    return len(words) == 2 and told.machines == [] and take_name(numbers, most, words[1])


def take_machine(told, words):
    """Take a machine, if the one before has a place."""
    if told.machines != [] and told.machines[-1].places == {}:
        return False
    if len(words) != 2 or not take_name(told.numbers, MOST_MACHINES, words[1]):
        return False
    told.machines.append(Machine())
    return True


def take_place(told, machine, words):
    """Take a place of the machine, with its bounds."""
    if len(words) < 2 or not take_name(machine.places, MOST_PLACES, words[1]):
        return False
    bounds = told.new_bounds()
    machine.place_bounds.append(bounds)
    return take_bounds(told, bounds, words, 2) == len(words)


def take_edge(told, machine, words):
    """Take an edge of the machine; a word that no part of it reads makes it wrong."""
    if len(words) < 3 or words[1] not in machine.places or words[2] not in machine.places:
        return False
    if len(machine.edges) >= MOST_EDGES:
        return False
    source = machine.places[words[1]]
    target = machine.places[words[2]]
    edge = Edge(len(told.machines) - 1, len(machine.edges), source, target, told.new_bounds())
    machine.edges.append(edge)
    at = take_when(told, edge, words, 3)
    at = take_sets(told, edge, words, at)
    at = take_meeting(told, edge, words, at)
    return at == len(words)


def take_bounds(told, bounds, words, at):
    """Take bounds from word number at on; answer the number of the first word that is none."""
    while at < len(words) and take_bound(told, bounds, words[at]):
        at += 1
    return at


def take_bound(told, bounds, word):
    """Take one bound; answer False if the word is none."""
    sign = "<=" if "<=" in word else ">="
    parts = word.partition(sign)
    digits = parts[2]
    if parts[0] not in told.clocks or not digits.isdigit() or len(digits) > MOST_DIGITS:
        return False
    number = int(digits)
    if number > HIGHEST_NUMBER:
        return False
    if sign == "<=":
        bounds.tighten(told.clocks[parts[0]], 0, number)
    else:
        bounds.tighten(told.clocks[parts[0]], number, BEYOND)
    return True


def take_when(told, edge, words, at):
    """Take the part of an edge with its bounds, if it's there; answer the number of the word behind."""
    if at < len(words) and words[at] == "when":
        return take_bounds(told, edge.bounds, words, at + 1)
    return at


def take_sets(told, edge, words, at):
    """Take the part of an edge with the clocks it sets, if it's there; answer the number of the word behind."""
    if at < len(words) and words[at] == "set":
        at += 1
        while at < len(words) and words[at] in told.clocks:
            edge.sets.append(told.clocks[words[at]])
            at += 1
    return at


def take_meeting(told, edge, words, at):
    """Take the part of an edge with its signal, if it's there; answer the number of the word behind."""
    if at + 1 >= len(words) or words[at + 1] not in told.signals:
        return at
    if words[at] == "give":
        edge.meeting = GIVES
    elif words[at] == "take":
        edge.meeting = TAKES
    else:
        return at
    edge.signal = told.signals[words[at + 1]]
    return at + 2


def read_asks(told, text):
    """Answer the numbers of machine and place of each ask, or None if one names what isn't there."""
    asked = []
    for word in words_of(text):
        parts = word.partition(".")
        if parts[0] not in told.numbers:
            return None
        machine = told.numbers[parts[0]]
        places = told.machines[machine].places
        if parts[2] not in places:
            return None
        asked.append((machine, places[parts[2]]))
    return asked
