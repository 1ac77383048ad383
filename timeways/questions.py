"""What is asked of a plan: each answer is a list of numbers, a refusal one alone."""

from timeways.plan import MINUTES_TOLD, is_day
from timeways.refusals import NO_WAY, OUT_OF_RANGE
from timeways.search import NEVER, Search


def earliest(plan, start, goal, day, minute):
    if not can_ask(plan, start, goal, day, minute):
        return [OUT_OF_RANGE]
    search = searched(plan.forward(day), start, minute)
    if search.arrivals[goal] == NEVER:
        return [NO_WAY]
    return [0, search.arrivals[goal], search.rides[goal]]


def latest(plan, start, goal, day, minute):
    if not can_ask(plan, start, goal, day, minute):
        return [OUT_OF_RANGE]
    search = searched(plan.mirrored(day), goal, -minute)
    if search.arrivals[start] == NEVER:
        return [NO_WAY]
    return [0, -search.arrivals[start], search.rides[start]]


def can_ask(plan, start, goal, day, minute):
    return plan.has_stop(start) and plan.has_stop(goal) and is_day(day) and is_minute(minute)


def is_minute(minute):
    return 0 <= minute < MINUTES_TOLD


def searched(network, start, minute):
    search = Search(network, start, minute)
    search.ride_to_the_end()
    return search
