"""The document's words played out one by one, with no thought of time: what the program is held against.

Nothing is dropped for being worse than something else: all states that a journey can be in
are gone through, and latest tries minute by minute.
"""


class SlowTimetable:
    def __init__(self):
        self.changes = []
        self.trips = []
        self.walks = []
        self.lateness = {}

    def stop(self, change):
        self.changes.append(change)
        return [len(self.changes) - 1]

    def trip(self, days, rows):
        self.trips.append((days, [tuple(row) for row in rows]))
        return [len(self.trips) - 1]

    def walk(self, start, goal, minutes):
        self.walks.append((start, goal, minutes))
        return [len(self.walks) - 1]

    def late(self, number, day, call, minutes):
        self.lateness[number, day] = (call, minutes)
        return [0]

    def runs(self, day):
        found = []
        for begins in (-1, 0, 1):
            weekday = (day + begins) % 7
            for number, (days, rows) in enumerate(self.trips):
                if days & (1 << weekday):
                    call, minutes = self.lateness.get((number, weekday), (0, 0))
                    found.append([
                        (
                            where,
                            come + 1440 * begins + (minutes if index > call else 0),
                            go + 1440 * begins + (minutes if index >= call else 0),
                        )
                        for index, (where, come, go) in enumerate(rows)
                    ])
        return found

    def states(self, runs, start, minute, end):
        """For 0, 1, 2 .. rides: the new (stop, minute, leg before) that a journey comes to by end."""
        seen = set()
        layer = {(start, minute, "start")}
        while layer:
            for where, when, leg in list(layer):
                if leg != "walk":
                    for begin, goal, minutes in self.walks:
                        if begin == where and when + minutes <= end:
                            layer.add((goal, when + minutes, "walk"))
            layer -= seen
            seen |= layer
            yield layer
            layer = self.rides(runs, layer, end) - seen

    def rides(self, runs, layer, end):
        found = set()
        for where, when, leg in layer:
            ready = when + (self.changes[where] if leg == "ride" else 0)
            for rows in runs:
                for on in range(len(rows)):
                    if rows[on][0] == where and rows[on][2] >= ready:
                        for off in range(on + 1, len(rows)):
                            if rows[off][1] <= end:
                                found.add((rows[off][0], rows[off][1], "ride"))
        return found

    def earliest(self, start, goal, day, minute):
        ways = []
        for rides, layer in enumerate(self.states(self.runs(day), start, minute, 100000)):
            ways.extend((when, rides) for where, when, leg in layer if where == goal)
        return [0, *min(ways)] if ways else [-1]

    def latest(self, start, goal, day, minute):
        runs = self.runs(day)
        # No trip begins before the day before, and no walk to it takes more than 240 minutes.
        for begin in range(minute, -1440 - 240 - 1, -1):
            for rides, layer in enumerate(self.states(runs, start, begin, minute)):
                if any(where == goal for where, when, leg in layer):
                    return [0, begin, rides]
        return [-1]
