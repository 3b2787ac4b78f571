"""Which steps there are from a state.

A state is one whole number. Its lowest bits are what the clocks show, five bits for each; above them
stands the spot: the numbers of the places at which the machines are, three bits for each.
"""

from meetclocks.told import ALONE, BEYOND, GIVES, TAKES

CLOCK_BITS = 5
CLOCK_MASK = 31
# Of BEYOND alone this bit is there.
BEYOND_BIT = 4
ALL_CLOCK_BITS = 20
ALL_CLOCKS_MASK = 1048575
PLACE_BITS = 3
PLACE_MASK = 7

TIME_STEP = (-1, -1, -1, -1)


class Move:
    """A step from a spot, done if clocks allow it: by its edges, or of time if it has none."""

    def __init__(self, step, edges, spot, place_bounds):
        self.step = step
        self.edges = edges
        self.is_time = edges == []
        self.target = spot << ALL_CLOCK_BITS
        self.place_bounds = place_bounds
        self.kept = ALL_CLOCKS_MASK
        for edge in edges:
            for clock in edge.sets:
                self.kept = self.kept & ~(CLOCK_MASK << CLOCK_BITS * clock)

    def shown_after(self, clock, shown):
        """Answer what a clock that shows this will show behind the step."""
        if self.is_time:
            return min(shown + 1, BEYOND)
        for edge in self.edges:
            if clock in edge.sets:
                return 0
        return shown

    def allowed_by(self, clock, shown):
        """Tell whether nothing is against the step if the clock shows this."""
        after = self.shown_after(clock, shown)
        for edge in self.edges:
            if not edge.bounds.hold(clock, shown):
                return False
        for bounds in self.place_bounds:
            if not bounds.hold(clock, after):
                return False
        return True


class Spot:
    """The moves from a spot in order. A row of them is a number: bit k is there if move k is."""

    def __init__(self, moves, clocks):
        self.moves = moves
        self.all_moves = (1 << len(moves)) - 1
        self.tables = [allowed_table(moves, clock) for clock in range(clocks)]

    def allowed_moves(self, shown):
        """Answer the row of moves that all clocks allow."""
        row = self.all_moves
        for table in self.tables:
            row = row & table[shown & CLOCK_MASK]
            shown = shown >> CLOCK_BITS
        return row


def allowed_table(moves, clock):
    """Answer the row of moves that the clock allows, for each number that it may show."""
    table = [0] * (BEYOND + 1)
    bit = 1
    for move in moves:
        for shown in range(BEYOND + 1):
            if move.allowed_by(clock, shown):
                table[shown] += bit
        bit += bit
    return table


class World:
    """The states of what was told and their steps; the start is state 0."""

    def __init__(self, told):
        self.told = told
        # The moves from each spot that was asked for: many states share a spot.
        self.known_spots = {}
        self.unit = 0
        for clock in range(len(told.clocks)):
            self.unit += 1 << CLOCK_BITS * clock

    def start_holds(self):
        """Tell whether the bounds of the first places hold at the start."""
        for bounds in self.told.bounds_of(places_of(self.told, 0)):
            for clock in range(len(self.told.clocks)):
                if not bounds.hold(clock, 0):
                    return False
        return True

    def steps_from(self, state):
        """Answer the steps from the state in order, each by its move and the state behind it."""
        spot = self.spot_at(spot_of(state))
        shown = state & ALL_CLOCKS_MASK
        row = spot.allowed_moves(shown)
        steps = []
        while row > 0:
            bit = row & -row
            move = spot.moves[bit.bit_length() - 1]
            after = self.one_later(shown) if move.is_time else shown & move.kept
            steps.append((move, move.target + after))
            row -= bit
        return steps

    def one_later(self, shown):
        """Answer what the clocks show when a unit of time has gone by."""
        at_end = (shown >> BEYOND_BIT) & self.unit
        return shown + self.unit - at_end

    def spot_at(self, number):
        """Answer the spot with its moves, made when it is asked for first."""
        if number not in self.known_spots:
            moves = moves_from(self.told, places_of(self.told, number))
            self.known_spots[number] = Spot(moves, len(self.told.clocks))
        return self.known_spots[number]


def spot_of(state):
    """Answer the number of the state's spot."""
    return state >> ALL_CLOCK_BITS


def place_at(spot, machine):
    """Answer the number of the machine's place at the spot."""
    return (spot >> PLACE_BITS * machine) & PLACE_MASK


def places_of(told, spot):
    """Answer the numbers of the places at the spot, machine by machine."""
    return [place_at(spot, machine) for machine in range(len(told.machines))]


def moves_from(told, places):
    """Answer all moves in order: time, edges by themselves, two that meet."""
    moves = [made_move(told, places, TIME_STEP, [])]
    for edge in edges_from(told, places, ALONE):
        moves.append(made_move(told, places, (edge.machine, edge.number, -1, -1), [edge]))
    takers = edges_from(told, places, TAKES)
    for giver in edges_from(told, places, GIVES):
        for taker in takers:
            if taker.machine != giver.machine and taker.signal == giver.signal:
                step = (giver.machine, giver.number, taker.machine, taker.number)
                moves.append(made_move(told, places, step, [giver, taker]))
    return moves


def edges_from(told, places, meeting):
    """Answer in order the edges of one sort that begin where their machines are."""
    edges = []
    for machine, place in zip(told.machines, places):
        edges.extend([edge for edge in machine.edges if edge.source == place and edge.meeting == meeting])
    return edges


def made_move(told, places, step, edges):
    """Answer the move that does these edges at once."""
    after = list(places)
    for edge in edges:
        after[edge.machine] = edge.target
    spot = 0
    for place in reversed(after):
        spot = (spot << PLACE_BITS) + place
    return Move(step, edges, spot, told.bounds_of(after))
