"""What is asked of a plan: each answer is a list of numbers, a refusal one alone."""

from timeways.legs import Guide, first_journey
from timeways.plan import MINUTES_TOLD, is_day
from timeways.profiles import worthwhile
from timeways.refusals import NO_WAY, OUT_OF_RANGE, TOO_MANY
from timeways.search import NEVER, Search

MOST_RIDES_OF_FRONT = 8
MOST_ROWS = 4096
# In the place of an arrival, where a stop can't be reached.
UNREACHED = -1


def earliest(plan, start, goal, day, minute):
    if not can_ask(plan, start, goal, day, minute):
        return [OUT_OF_RANGE]
    search = searched(plan.forward(day), start, minute)
    if search.arrivals[goal] == NEVER:
        return [NO_WAY]
    return [0, search.arrivals[goal], search.rides[goal]]


def latest(plan, start, goal, day, minute):
    if not can_ask(plan, start, goal, day, minute):
        return [OUT_OF_RANGE]
    search = searched(plan.mirrored(day), goal, -minute)
    if search.arrivals[start] == NEVER:
        return [NO_WAY]
    return [0, -search.arrivals[start], search.rides[start]]


def front(plan, start, goal, day, minute, most):
    if not can_ask(plan, start, goal, day, minute) or not is_most(most):
        return [OUT_OF_RANGE]
    search = Search(plan.forward(day))
    search.begin(start, minute)
    rows = []
    arrival = NEVER
    for rides in range(MOST_RIDES_OF_FRONT + 1):
        if rides > 0:
            search.take_ride()
        if search.arrivals[goal] < arrival:
            arrival = search.arrivals[goal]
            rows.append((rides, arrival))
    return counted(rows, most)


def profile(plan, start, goal, day, first, last, most):
    if not can_ask(plan, start, goal, day, first) or not is_minute(last) or last < first or not is_most(most):
        return [OUT_OF_RANGE]
    return counted(worthwhile(plan.forward(day), start, goal, first, last), most)


def reach(plan, start, day, minute, most):
    if not can_ask(plan, start, start, day, minute) or not is_most(most):
        return [OUT_OF_RANGE]
    search = searched(plan.forward(day), start, minute)
    rows = [(arrival if arrival < NEVER else UNREACHED,) for arrival in search.arrivals]
    return counted(rows, most)


def journey(plan, start, goal, day, minute, most):
    if not can_ask(plan, start, goal, day, minute) or not is_most(most):
        return [OUT_OF_RANGE]
    network = plan.forward(day)
    search = searched(network, start, minute)
    if search.arrivals[goal] == NEVER:
        return [NO_WAY]
    rides = search.rides[goal]
    guide = Guide(plan.mirrored(day), goal, search.arrivals[goal], rides)
    return counted(first_journey(network, guide, start, minute, rides), most)


def board(plan, stop, day, minute, most):
    if not can_ask(plan, stop, stop, day, minute) or not is_most(most):
        return [OUT_OF_RANGE]
    network = plan.forward(day)
    rows = []
    for goes, run, call in [leaving for leaving in network.departures[stop] if leaving[0] >= minute][:most]:
        trip, begins = network.origins[run]
        stops, comes = network.runs[run]
        rows.append((goes, trip, begins, stops[-1]))
    return counted(rows, most)


def can_ask(plan, start, goal, day, minute):
    return plan.has_stop(start) and plan.has_stop(goal) and is_day(day) and is_minute(minute)


def is_minute(minute):
    return 0 <= minute < MINUTES_TOLD


def is_most(most):
    return 0 <= most <= MOST_ROWS


def searched(network, start, minute):
    search = Search(network)
    search.begin(start, minute)
    search.ride_to_the_end()
    return search


def counted(rows, most):
    """How many rows, and their numbers; refused if they are more than most."""
    if len(rows) > most:
        return [TOO_MANY]
    answer = [len(rows)]
    for row in rows:
        answer.extend(row)
    return answer
