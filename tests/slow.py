"""The document's words played out one by one, with no thought of time: what the program is held against.

Nothing is dropped for being worse than something else: all states that a journey can be in
are gone through, latest and profile try minute by minute, and journey compares all ways that
are in time as plain lists of numbers.
"""


class SlowTimetable:
    def __init__(self):
        self.changes = []
        self.trips = []
        self.walks = []
        self.lateness = {}

    def stop(self, change):
        self.changes.append(change)
        return [len(self.changes) - 1]

    def trip(self, days, rows):
        self.trips.append((days, [tuple(row) for row in rows]))
        return [len(self.trips) - 1]

    def walk(self, start, goal, minutes):
        self.walks.append((start, goal, minutes))
        return [len(self.walks) - 1]

    def late(self, number, day, call, minutes):
        self.lateness[number, day] = (call, minutes)
        return [0]

    def runs(self, day):
        return [rows for number, begins, rows in self.named_runs(day)]

    def named_runs(self, day):
        """Of each run the trip, the day that it begins, and its calls."""
        found = []
        for begins in (-1, 0, 1):
            weekday = (day + begins) % 7
            for number, (days, rows) in enumerate(self.trips):
                if days & (1 << weekday):
                    call, minutes = self.lateness.get((number, weekday), (0, 0))
                    found.append((number, begins, [
                        (
                            where,
                            come + 1440 * begins + (minutes if index > call else 0),
                            go + 1440 * begins + (minutes if index >= call else 0),
                        )
                        for index, (where, come, go) in enumerate(rows)
                    ]))
        return found

    def states(self, runs, start, minute, end):
        """For 0, 1, 2 .. rides: the new (stop, minute, leg before) that a journey comes to by end."""
        seen = set()
        layer = {(start, minute, "start")}
        while layer:
            for where, when, leg in list(layer):
                if leg != "walk":
                    for begin, goal, minutes in self.walks:
                        if begin == where and when + minutes <= end:
                            layer.add((goal, when + minutes, "walk"))
            layer -= seen
            seen |= layer
            yield layer
            layer = self.rides(runs, layer, end) - seen

    def rides(self, runs, layer, end):
        found = set()
        for where, when, leg in layer:
            ready = when + (self.changes[where] if leg == "ride" else 0)
            for rows in runs:
                for on in range(len(rows)):
                    if rows[on][0] == where and rows[on][2] >= ready:
                        for off in range(on + 1, len(rows)):
                            if rows[off][1] <= end:
                                found.add((rows[off][0], rows[off][1], "ride"))
        return found

    def earliest(self, start, goal, day, minute):
        ways = []
        for rides, layer in enumerate(self.states(self.runs(day), start, minute, 100000)):
            ways.extend((when, rides) for where, when, leg in layer if where == goal)
        return [0, *min(ways)] if ways else [-1]

    def latest(self, start, goal, day, minute):
        runs = self.runs(day)
        # No trip begins before the day before, and no walk to it takes more than 240 minutes.
        for begin in range(minute, -1440 - 240 - 1, -1):
            for rides, layer in enumerate(self.states(runs, start, begin, minute)):
                if any(where == goal for where, when, leg in layer):
                    return [0, begin, rides]
        return [-1]

    def arrivals(self, start, day, minute):
        """For 0, 1, 2 .. rides: by stop, the earliest arrival by exactly so many."""
        for layer in self.states(self.runs(day), start, minute, 100000):
            found = {}
            for where, when, leg in layer:
                found[where] = min(when, found.get(where, when))
            yield found

    def front(self, start, goal, day, minute):
        rows = []
        for rides, found in enumerate(self.arrivals(start, day, minute)):
            if rides <= 8 and goal in found and all(found[goal] < when for fewer, when in rows):
                rows.append((rides, found[goal]))
        return flat(rows)

    def reach(self, start, day, minute):
        layers = list(self.arrivals(start, day, minute))
        return flat([
            (min([found[goal] for found in layers if goal in found], default=-1),)
            for goal in range(len(self.changes))
        ])

    def profile(self, start, goal, day, first, last):
        rows = []
        for minute in range(first, last + 1):
            now = self.earliest(start, goal, day, minute)
            after = self.earliest(start, goal, day, minute + 1)
            if now[0] == 0 and (after[0] == -1 or now[1] < after[1]):
                rows.append((minute, now[1]))
        return flat(rows)

    def board(self, where, day, minute, most):
        rows = []
        for number, begins, calls in self.named_runs(day):
            for stop, come, go in calls[:-1]:
                if stop == where and go >= minute:
                    rows.append((go, number, begins, calls[-1][0]))
        return flat(sorted(rows)[:most])

    def journey(self, start, goal, day, minute):
        way = self.earliest(start, goal, day, minute)
        if way == [-1]:
            return way
        numbers = AllWays(self, self.named_runs(day), goal, way[1]).least(start, minute, "start", way[2])
        return [len(numbers) // 5] + numbers


class AllWays:
    """All journeys that are at the goal at that minute at the latest."""

    def __init__(self, timetable, runs, goal, end):
        self.timetable = timetable
        self.runs = runs
        self.goal = goal
        self.end = end
        self.known = {}

    def least(self, where, when, leg, rides):
        """The least list of the legs' numbers by exactly so many rides, None if there is no way."""
        key = where, when, leg, rides
        if key not in self.known:
            ways = [[]] if where == self.goal and rides == 0 else []
            for numbers, step in self.legs(where, when, leg, rides):
                rest = self.least(*step)
                if rest is not None:
                    ways.append(numbers + rest)
            self.known[key] = min(ways, default=None)
        return self.known[key]

    def legs(self, where, when, leg, rides):
        """Each leg that can be next: its five numbers, and what comes of it."""
        if leg != "walk":
            for number, (begin, end, minutes) in enumerate(self.timetable.walks):
                if begin == where and when + minutes <= self.end:
                    yield [-1, number, begin, end, when + minutes], (end, when + minutes, "walk", rides)
        if rides > 0:
            yield from self.rides(where, when + (self.timetable.changes[where] if leg == "ride" else 0), rides)

    def rides(self, where, ready, rides):
        for number, begins, rows in self.runs:
            for on, (begin, come_on, go) in enumerate(rows):
                if begin == where and go >= ready:
                    for off in range(on + 1, len(rows)):
                        end, come, go_on = rows[off]
                        if come <= self.end:
                            yield [number, begins, on, off, come], (end, come, "ride", rides - 1)


def flat(rows):
    return [len(rows)] + [number for row in rows for number in row]
