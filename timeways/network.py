"""What can be ridden and walked around one day, laid out for a search."""


class Network:
    """Runs (a trip on one day each) and walks, by the stop that they leave from."""

    def __init__(self, changes, runs, walks):
        self.changes = list(changes)
        self.runs = []
        self.departures = [[] for change in changes]
        self.footpaths = [[] for change in changes]
        for stops, comes, goes in runs:
            self.add_run(stops, comes, goes)
        for start, goal, minutes in walks:
            self.footpaths[start].append((goal, minutes))
        # A search boards a stop's departures from the last one towards the first.
        self.departures = [sorted(departures) for departures in self.departures]

    def add_run(self, stops, comes, goes):
        run = len(self.runs)
        self.runs.append((stops, comes))
        for call in range(len(stops) - 1):
            self.departures[stops[call]].append((goes[call], run, call))


def mirrored_network(changes, runs, walks):
    """The network with time running backwards: each minute m is -m.

    A journey read from its end keeps all the rules of a journey (changes and walks
    mean the same both ways), so the latest departure is an earliest arrival here.
    """
    runs_back = []
    for stops, comes, goes in runs:
        runs_back.append((stops[::-1], [-go for go in goes[::-1]], [-come for come in comes[::-1]]))
    walks_back = [(goal, start, minutes) for start, goal, minutes in walks]
    return Network(changes, runs_back, walks_back)
