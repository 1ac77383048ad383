"""A line of calls on one new timetable, and what they are answered."""

from timeways.plan import Plan
from timeways.questions import board, earliest, front, journey, latest, profile, reach

STOP = 1
TRIP = 2
WALK = 3
LATE = 4
EARLIEST = 5
LATEST = 6
FRONT = 7
PROFILE = 8
REACH = 9
JOURNEY = 10

# How many whole numbers follow a call's number; a trip's list comes behind these.
WIDTHS = {1: 1, 2: 1, 3: 3, 4: 4, 5: 4, 6: 4, 7: 5, 8: 6, 9: 4, 10: 5, 11: 4}


def answers(calls):
    """For each call of the list, in order: how many numbers it is answered, and these."""
    plan = Plan()
    told = []
    place = 0
    while place < len(calls):
        number = calls[place]
        behind = place + 1 + WIDTHS[number]
        numbers = calls[place + 1:behind]
        row = []
        if number == TRIP:
            row = calls[behind + 1:behind + 1 + calls[behind]]
            behind = behind + 1 + len(row)
        answer = answer_of(plan, number, numbers, row)
        told.append(len(answer))
        told.extend(answer)
        place = behind
    return told


def answer_of(plan, number, numbers, row):
    if number == STOP:
        return [plan.add_stop(numbers[0])]
    if number == TRIP:
        return [plan.add_trip(numbers[0], row)]
    if number == WALK:
        return [plan.add_walk(numbers[0], numbers[1], numbers[2])]
    if number == LATE:
        return [plan.tell_late(numbers[0], numbers[1], numbers[2], numbers[3])]
    return answer_asked(plan, number, numbers)


def answer_asked(plan, number, numbers):
    if number == EARLIEST:
        return earliest(plan, numbers[0], numbers[1], numbers[2], numbers[3])
    if number == LATEST:
        return latest(plan, numbers[0], numbers[1], numbers[2], numbers[3])
    if number == FRONT:
        return front(plan, numbers[0], numbers[1], numbers[2], numbers[3], numbers[4])
    if number == PROFILE:
        return profile(plan, numbers[0], numbers[1], numbers[2], numbers[3], numbers[4], numbers[5])
    if number == REACH:
        return reach(plan, numbers[0], numbers[1], numbers[2], numbers[3])
    if number == JOURNEY:
        return journey(plan, numbers[0], numbers[1], numbers[2], numbers[3], numbers[4])
    return board(plan, numbers[0], numbers[1], numbers[2], numbers[3])
