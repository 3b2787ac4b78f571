"""What the tests share: calls as lists of numbers, and a slow, plain model to compare with."""

import re

from meetclocks.machines import answers


def row(text):
    numbers = list(text if isinstance(text, bytes) else text.encode("latin-1"))
    return [len(numbers)] + numbers


def load(text):
    return [1] + row(text)


def way(asks, most=65536):
    return [2, most] + row(asks)


def least(asks):
    return [3] + row(asks)


def stuck(most=65536):
    return [4, most]


def told(*lines):
    return "\n".join(lines)


def replies(*calls):
    """Make the calls on one object; answer a list of numbers for each."""
    numbers = answers([number for call in calls for number in call])
    parted = []
    at = 0
    while at < len(numbers):
        size = numbers[at]
        parted.append(numbers[at + 1:at + 1 + size])
        assert len(parted[-1]) == size, "fewer numbers than told"
        at += 1 + size
    assert len(parted) == len(calls), "not one answer for each call"
    return parted


def loaded(text):
    """Answer what load alone answers to the text."""
    return replies(load(text))[0]


def asked(text, *calls):
    """Load the text, which must be taken; answer what the calls answer."""
    parted = replies(load(text), *calls)
    assert parted[0] == [0], f"not taken: {parted[0]}"
    return parted[1:]


TIME = [-1, -1, -1, -1]


def steps(*fours):
    """Answer what a way of these steps answers."""
    return [len(fours)] + [number for four in fours for number in four]


class PlainModel:
    """The words of the document done slowly over tuples, for texts that are known to be taken."""

    def __init__(self, text):
        self.clocks, self.signals, self.machines = [], [], []
        for line in text.split("\n"):
            words = line.split()
            if not words:
                continue
            if words[0] == "clock":
                self.clocks.append(words[1])
            elif words[0] == "signal":
                self.signals.append(words[1])
            elif words[0] == "machine":
                self.machines.append({"name": words[1], "places": [], "edges": []})
            elif words[0] == "place":
                self.machines[-1]["places"].append((words[1], words[2:]))
            else:
                self.machines[-1]["edges"].append(self.edge(line))

    def edge(self, line):
        found = re.fullmatch(
            r" *edge +(\w+) +(\w+)(?: +when((?: +\w+[<>]=\d+)*))?(?: +set((?: +(?!give\b|take\b)\w+)*))?"
            r"(?: +(give|take) +(\w+))? *", line)
        source, target, when, sets, sort, signal = found.groups()
        return {"from": source, "to": target, "when": (when or "").split(), "set": (sets or "").split(),
                "sort": sort, "signal": signal}

    def holds(self, bounds, clocks):
        for bound in bounds:
            clock, sign, number = re.fullmatch(r"(\w+)([<>]=)(\d+)", bound).groups()
            shown = clocks[self.clocks.index(clock)]
            if shown > int(number) if sign == "<=" else shown < int(number):
                return False
        return True

    def may_be(self, state):
        places, clocks = state
        return all(self.holds(dict(machine["places"])[place], clocks)
                   for machine, place in zip(self.machines, places))

    def start(self):
        return tuple(machine["places"][0][0] for machine in self.machines), (0,) * len(self.clocks)

    def candidates(self, state):
        places, clocks = state
        yield TIME, (places, tuple(min(16, shown + 1) for shown in clocks))
        here = [(m, e, edge) for m, machine in enumerate(self.machines) for e, edge in enumerate(machine["edges"])
                if edge["from"] == places[m] and self.holds(edge["when"], clocks)]
        for m, e, edge in here:
            if edge["sort"] is None:
                yield [m, e, -1, -1], self.done(state, [(m, edge)])
        for m, e, edge in here:
            for other, f, taking in here:
                if edge["sort"] == "give" and taking["sort"] == "take" and m != other:
                    if edge["signal"] == taking["signal"]:
                        yield [m, e, other, f], self.done(state, [(m, edge), (other, taking)])

    def done(self, state, edges):
        places, clocks = list(state[0]), list(state[1])
        for m, edge in edges:
            places[m] = edge["to"]
            for clock in edge["set"]:
                clocks[self.clocks.index(clock)] = 0
        return tuple(places), tuple(clocks)

    def steps_from(self, state):
        return [(step, after) for step, after in self.candidates(state) if self.may_be(after)]

    def all_ways(self):
        """Answer every state with its way, in the order in which they are found."""
        if not self.may_be(self.start()):
            return {}
        ways = {self.start(): []}
        queue = [self.start()]
        for state in queue:
            for step, after in self.steps_from(state):
                if after not in ways:
                    ways[after] = ways[state] + [step]
                    queue.append(after)
        return ways

    def is_asked(self, state, asks):
        names = [machine["name"] for machine in self.machines]
        wanted = [ask.split(".") for ask in asks.split()]
        return all(state[0][names.index(machine)] == place for machine, place in wanted)

    def way(self, ways, asks):
        for state, found in ways.items():
            if self.is_asked(state, asks):
                return steps(*found)
        return [-6]

    def stuck(self, ways):
        for state, found in ways.items():
            if not self.steps_from(state):
                return steps(*found)
        return [-6]

    def units(self, ways):
        """Answer the least units of time for every state, lowered until no step lowers any."""
        far = len(ways) + 1
        units = {state: far for state in ways}
        if ways:
            units[self.start()] = 0
        edges = [(state, after, 1 if step == TIME else 0)
                 for state in ways for step, after in self.steps_from(state)]
        lowered = True
        while lowered:
            lowered = False
            for state, after, cost in edges:
                if units[state] + cost < units[after]:
                    units[after] = units[state] + cost
                    lowered = True
        return units

    def least(self, units, asks):
        fitting = [passed for state, passed in units.items() if self.is_asked(state, asks)]
        return [min(fitting)] if fitting else [-6]
