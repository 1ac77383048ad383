"""A journey leg by leg: of those as early and of as few rides, the first by its legs' numbers."""

from timeways.search import Search

WALKED = -1


class Limits:
    """With so many rides left: how late one may still be where, to be at the goal in time.

    Read off a search with time running backwards, which began at the goal.
    """

    def __init__(self, search):
        self.network = search.network
        self.ridden = list(search.ridden)
        self.ready = list(search.ready)
        self.first_calls = list(search.first_calls)

    def can_board_at(self, stop, minute):
        return minute <= -self.ridden[stop]

    def can_get_off_at(self, stop, minute):
        return minute <= -self.ready[stop]

    def last_call_off(self, run):
        """The last call of the run at which getting off is in time; its first if there is none."""
        stops, comes = self.network.runs[run]
        return len(stops) - 1 - self.first_calls[run]


class Guide:
    """Which legs keep a journey to the goal in time."""

    def __init__(self, mirrored, goal, arrival, rides):
        search = Search(mirrored)
        search.begin(goal, -arrival)
        self.goal = goal
        self.arrival = arrival
        # By how many rides are left.
        self.limits = [Limits(search)]
        for ride in range(rides):
            search.take_ride()
            self.limits.append(Limits(search))

    def can_walk_to(self, stop, minute, left):
        if stop == self.goal and minute <= self.arrival:
            return True
        return self.limits[left].can_board_at(stop, minute)

    def can_board(self, run, call, left):
        return call < self.limits[left].last_call_off(run)

    def can_get_off(self, stop, minute, left):
        return self.limits[left].can_get_off_at(stop, minute)


def first_journey(network, guide, start, minute, rides):
    """The legs, five numbers each. The least leg that is in time is taken each time: no two have the same numbers."""
    legs = []
    stop = start
    there = minute
    ready = minute
    left = rides
    after_walk = False
    # Who is at the goal in time has no rides left: fewer would have done otherwise.
    while stop != guide.goal:
        leg = None
        if not after_walk:
            leg = first_walk(network, guide, stop, there, left)
        after_walk = leg is not None
        if after_walk:
            stop = leg[3]
            ready = leg[4]
        else:
            left -= 1
            leg, stop = first_ride(network, guide, stop, ready, left)
            ready = leg[4] + network.changes[stop]
        there = leg[4]
        legs.append(leg)
    return legs


def first_walk(network, guide, stop, minute, left):
    """The walk with the least number that is in time, or None."""
    for goal, minutes, number in network.footpaths[stop]:
        if guide.can_walk_to(goal, minute + minutes, left):
            return (WALKED, number, stop, goal, minute + minutes)
    return None


def first_ride(network, guide, stop, ready, left):
    """The least ride after which so many rides are left and enough, and the stop where it ends."""
    boardings = []
    for goes, run, call in network.departures[stop]:
        if goes >= ready and guide.can_board(run, call, left + 1):
            boardings.append((run, call))
    run, on = min(boardings)
    trip, begins = network.origins[run]
    stops, comes = network.runs[run]
    off = on + 1
    while not guide.can_get_off(stops[off], comes[off], left):
        off += 1
    return (trip, begins, on, off, comes[off]), stops[off]
