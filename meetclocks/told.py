"""What a text tells: clocks, signals, and machines with their places and edges."""

# What a clock shows at most: no bound tells more than 15, so all beyond is alike.
BEYOND = 16

# How an edge is done: by itself, or together with one of another machine.
ALONE = 0
GIVES = 1
TAKES = 2


class Bounds:
    """What each clock may show, from its low to its high."""

    def __init__(self, clocks):
        self.lows = [0] * clocks
        self.highs = [BEYOND] * clocks

    def tighten(self, clock, low, high):
        """Allow the clock no less than low and no more than high from now on."""
        self.lows[clock] = max(self.lows[clock], low)
        self.highs[clock] = min(self.highs[clock], high)

    def hold(self, clock, shown):
        """Tell whether the clock may show this."""
        return self.lows[clock] <= shown <= self.highs[clock]


class Edge:
    """An edge, by the numbers of its machine, of itself there, and of its two places."""

    def __init__(self, machine, number, source, target, bounds):
        self.machine = machine
        self.number = number
        self.source = source
        self.target = target
        self.bounds = bounds
        self.sets = []
        self.meeting = ALONE
        self.signal = -1


class Machine:
    """A machine: the numbers of its places by their names, their bounds, and its edges."""

    def __init__(self):
        self.places = {}
        self.place_bounds = []
        self.edges = []


class Told:
    """All that was told so far: numbers of clocks and of signals, and machines, by their names."""

    def __init__(self):
        self.clocks = {}
        self.signals = {}
        self.numbers = {}
        self.machines = []

    def new_bounds(self):
        """Answer bounds that hold whatever the clocks show."""
        return Bounds(len(self.clocks))

    def bounds_of(self, places):
        """Answer the bounds of the place, of the numbers handed in, at which each machine is."""
        return [machine.place_bounds[place] for machine, place in zip(self.machines, places)]
