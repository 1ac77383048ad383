"""What can be ridden and walked around one day, laid out for a search."""


class Network:
    """Runs (a trip on one day each) and walks, by the stop that they leave from."""

    def __init__(self, changes, runs, walks):
        self.changes = list(changes)
        self.runs = []
        # Of each run the trip, and the day that it begins: -1, 0, 1.
        self.origins = []
        self.departures = [[] for change in changes]
        self.footpaths = [[] for change in changes]
        for trip, begins, stops, comes, goes in runs:
            self.origins.append((trip, begins))
            self.add_run(stops, comes, goes)
        for number in range(len(walks)):
            start, goal, minutes = walks[number]
            self.footpaths[start].append((goal, minutes, number))
        # A search boards a stop's departures from the last one towards the first.
        self.departures = [sorted(departures) for departures in self.departures]

    def add_run(self, stops, comes, goes):
        run = len(self.runs)
        self.runs.append((stops, comes))
        for call in range(len(stops) - 1):
            self.departures[stops[call]].append((goes[call], run, call))


def mirrored_network(changes, runs, walks):
    """The network with time running backwards: each minute m is -m.

    A journey read from its end keeps all the rules of a journey (changes and walks
    mean the same both ways), so the latest departure is an earliest arrival here.
    Runs keep their numbers; a run's calls are numbered from its end.
    """
    runs_back = []
    for trip, begins, stops, comes, goes in runs:
        came = [-go for go in goes[::-1]]
        gone = [-come for come in comes[::-1]]
        runs_back.append((trip, begins, stops[::-1], came, gone))
    walks_back = [(goal, start, minutes) for start, goal, minutes in walks]
    return Network(changes, runs_back, walks_back)
