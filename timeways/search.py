"""The earliest arrivals, ride by ride."""

# Later than any minute that a journey can end at.
NEVER = 1000000


class Search:
    """Earliest arrivals at all stops by as many rides at most as have been taken.

    A departure is boarded once, when one is first ready for it, and of a run only the
    calls are looked at that no ride before has come to: so a whole search passes each
    call of each run once at most. That holds on if more is boarded when all is ridden.
    """

    def __init__(self, network):
        stop_count = len(network.changes)
        self.network = network
        self.taken = 0
        self.arrivals = [NEVER] * stop_count
        self.rides = [0] * stop_count
        # Kept apart from the arrivals: one may walk on from a ride, but not from a walk.
        self.ridden = [NEVER] * stop_count
        self.ready = [NEVER] * stop_count
        self.unboarded = [len(departures) for departures in network.departures]
        self.first_calls = [len(stops) - 1 for stops, comes in network.runs]
        self.boardings = []

    def begin(self, start, minute):
        self.arrive(start, minute, minute)
        self.walk_on(start, minute)

    def arrive(self, stop, minute, ready):
        """One is at the stop at that minute, and may board what goes from ready on."""
        if minute < self.arrivals[stop]:
            self.arrivals[stop] = minute
            self.rides[stop] = self.taken
        if ready < self.ready[stop]:
            self.ready[stop] = ready
            self.get_on(stop, ready)

    def get_on(self, stop, ready):
        departures = self.network.departures[stop]
        place = self.unboarded[stop]
        while place > 0 and departures[place - 1][0] >= ready:
            place -= 1
            self.boardings.append(departures[place])
        self.unboarded[stop] = place

    def walk_on(self, stop, minute):
        for goal, minutes, number in self.network.footpaths[stop]:
            self.arrive(goal, minute + minutes, minute + minutes)

    def take_ride(self):
        """Ride once more, from all that is boarded."""
        self.taken += 1
        reached = self.get_off()
        self.boardings = []
        for stop in reached:
            minute = self.ridden[stop]
            self.arrive(stop, minute, minute + self.network.changes[stop])
            self.walk_on(stop, minute)

    def get_off(self):
        """The stops that a ride comes to earlier than any ride before, as keys."""
        ridden = self.ridden
        reached = {}
        for goes, run, call in self.boardings:
            last = self.first_calls[run]
            if call < last:
                self.first_calls[run] = call
                stops, comes = self.network.runs[run]
                for later in range(call + 1, last + 1):
                    stop = stops[later]
                    if comes[later] < ridden[stop]:
                        ridden[stop] = comes[later]
                        reached[stop] = True
        return reached

    def ride_to_the_end(self):
        while len(self.boardings) > 0:
            self.take_ride()
