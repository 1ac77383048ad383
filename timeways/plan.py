"""The timetable as it is kept: stops, trips, walks, and what is late."""

from timeways.network import Network, mirrored_network
from timeways.refusals import CANNOT_RUN, FULL, OUT_OF_RANGE

MOST_STOPS = 256
MOST_TRIPS = 1024
MOST_WALKS = 4096
MINUTES_OF_A_DAY = 1440
# Minutes are told and asked within a day and the one after it.
MINUTES_TOLD = 2880
DAYS_OF_A_WEEK = 7


class Plan:
    """All that was told; what tells more answers the number of it, or a refusal."""

    def __init__(self):
        self.changes = []
        self.trips = []
        self.walks = []
        self.lateness = {}
        # Many questions ask about the same day: its networks stay until more is told.
        self.networks = {}

    def add_stop(self, change):
        if not 0 <= change <= 120:
            return OUT_OF_RANGE
        if len(self.changes) == MOST_STOPS:
            return FULL
        self.networks.clear()
        self.changes.append(change)
        return len(self.changes) - 1

    def add_trip(self, days, calls):
        if not 1 <= days <= 127 or not 2 <= len(calls) // 3 <= 64:
            return OUT_OF_RANGE
        stops = calls[0::3]
        comes = calls[1::3]
        goes = calls[2::3]
        if not can_run(stops, comes, goes, len(self.changes)):
            return CANNOT_RUN
        if len(self.trips) == MOST_TRIPS:
            return FULL
        self.networks.clear()
        self.trips.append((days, stops, comes, goes))
        return len(self.trips) - 1

    def add_walk(self, start, goal, minutes):
        if not self.has_stop(start) or not self.has_stop(goal) or not 0 <= minutes <= 240:
            return OUT_OF_RANGE
        if len(self.walks) == MOST_WALKS:
            return FULL
        self.networks.clear()
        self.walks.append((start, goal, minutes))
        return len(self.walks) - 1

    def tell_late(self, trip, day, call, minutes):
        if not 0 <= trip < len(self.trips) or not is_day(day):
            return OUT_OF_RANGE
        if not 0 <= call <= 63 or not 0 <= minutes <= 240:
            return OUT_OF_RANGE
        self.networks.clear()
        self.lateness[(trip, day)] = (call, minutes)
        return 0

    def has_stop(self, stop):
        return 0 <= stop < len(self.changes)

    def forward(self, day):
        key = ("forward", day)
        if key not in self.networks:
            self.networks[key] = Network(self.changes, self.runs_around(day), self.walks)
        return self.networks[key]

    def mirrored(self, day):
        key = ("mirrored", day)
        if key not in self.networks:
            self.networks[key] = mirrored_network(self.changes, self.runs_around(day), self.walks)
        return self.networks[key]

    def runs_around(self, day):
        """The trips that begin on the day before, the day and the day after, in the day's minutes.

        They stand in the order of the trips and then of the days, so that of two runs
        the one with the lesser number has the lesser row, on a board or in a journey.
        """
        runs = []
        for trip in range(len(self.trips)):
            for begins in (-1, 0, 1):
                weekday = (day + begins) % DAYS_OF_A_WEEK
                if (self.trips[trip][0] >> weekday) & 1 == 1:
                    runs.append(self.run_of(trip, begins, weekday))
        return runs

    def run_of(self, trip, begins, weekday):
        days, stops, comes, goes = self.trips[trip]
        midnight = begins * MINUTES_OF_A_DAY
        call, minutes = self.lateness.get((trip, weekday), (0, 0))
        # At the call where the lateness begins it still comes on time.
        came = shifted(comes, call + 1, midnight, midnight + minutes)
        gone = shifted(goes, call, midnight, midnight + minutes)
        return (trip, begins, stops, came, gone)


def is_day(day):
    return 0 <= day < DAYS_OF_A_WEEK


def can_run(stops, comes, goes, stop_count):
    gone = 0
    for stop, come, go in zip(stops, comes, goes):
        if stop >= stop_count or come < gone or go < come or go >= MINUTES_TOLD:
            return False
        gone = go
    return True


def shifted(minutes, call, before, since):
    """The minutes, shifted by one number before the call and by another since it."""
    return [minute + before for minute in minutes[:call]] + [minute + since for minute in minutes[call:]]
