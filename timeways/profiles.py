"""The minutes of a stretch from which it is worth going, and when one is there."""

from timeways.search import NEVER, Search


def worthwhile(network, start, goal, first, last):
    """Of each minute from which one is there earlier than from the minute after: it and the arrival.

    The minutes are gone through from the last to the first by one search: what could be
    boarded from a later minute can be boarded from an earlier one too, so only what
    comes in addition is ridden.
    """
    on_foot = minutes_on_foot(network, start)
    boardings = first_boardings(network, on_foot)
    search = Search(network)
    found = []
    arrival_after = NEVER
    for minute in range(last + 1, first - 1, -1):
        while len(boardings) > 0 and boardings[-1][0] >= minute:
            search.boardings.append(boardings.pop()[1])
        search.ride_to_the_end()
        arrival = min(search.arrivals[goal], minute + on_foot.get(goal, NEVER))
        if minute <= last and arrival < arrival_after:
            found.append((minute, arrival))
        arrival_after = arrival
    found.reverse()
    return found


def minutes_on_foot(network, start):
    """The stops where a journey is without a ride, and the fewest minutes that it takes."""
    on_foot = {start: 0}
    for goal, minutes, number in network.footpaths[start]:
        on_foot[goal] = min(minutes, on_foot.get(goal, minutes))
    return on_foot


def first_boardings(network, on_foot):
    """What a journey can board first: until which minute one may start for it, and the departure."""
    boardings = []
    for stop in on_foot:
        for departure in network.departures[stop]:
            boardings.append((departure[0] - on_foot[stop], departure))
    return sorted(boardings)
