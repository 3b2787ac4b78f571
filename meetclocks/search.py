"""Goes through all states that can be come to."""

from meetclocks.moves import spot_of

MOST_STATES = 50000


class Search:
    """The states in the order in which they are found, each with the way by which it was found first."""

    def __init__(self, world):
        self.world = world
        self.states = []
        self.seen = {}
        # Of each state: the number of the one before it, and the four numbers of the step from there.
        self.befores = []
        self.last_steps = []
        # Of each spot the number of its first state, in the order in which spots were found.
        self.firsts = {}
        self.first_stuck = -1
        if world.start_holds():
            self.keep(0, -1, None)
            self.go_on()

    def keep(self, state, before, step):
        """Keep a state, with the way to it, if it wasn't found before."""
        if state in self.seen:
            return
        self.seen[state] = True
        self.firsts.setdefault(spot_of(state), len(self.states))
        self.states.append(state)
        self.befores.append(before)
        self.last_steps.append(step)

    def go_on(self):
        """Look at state after state, until no new one is found or there are too many."""
        at = 0
        while at < len(self.states) and not self.has_too_many():
            steps = self.world.steps_from(self.states[at])
            if steps == [] and self.first_stuck < 0:
                self.first_stuck = at
            for move, after in steps:
                self.keep(after, at, move.step)
            at += 1

    def has_too_many(self):
        """Tell whether there are more states than are gone through."""
        return len(self.states) > MOST_STATES

    def way_to(self, at):
        """Answer the steps from the start to the state with this number."""
        steps = []
        while at > 0:
            steps.append(self.last_steps[at])
            at = self.befores[at]
        return list(reversed(steps))


def least_units(world):
    """Answer for each spot the least units of time by which it can be come to, the least ones first."""
    units = {}
    if not world.start_holds():
        return units
    seen = {0: True}
    found = [0]
    passed = 0
    while found != []:
        later = []
        at = 0
        while at < len(found):
            units.setdefault(spot_of(found[at]), passed)
            for move, after in world.steps_from(found[at]):
                if move.is_time:
                    later.append(after)
                elif after not in seen:
                    seen[after] = True
                    found.append(after)
            at += 1
        found = new_ones(later, seen)
        passed += 1
    return units


def new_ones(states, seen):
    """Answer those of the states that weren't seen, each once, and count them as seen."""
    fresh = []
    for state in states:
        if state not in seen:
            seen[state] = True
            fresh.append(state)
    return fresh
