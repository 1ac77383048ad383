"""How the tests write a line of calls, and read its answers."""

from timeways.timetable import answers

EVERY_DAY = 127
LEAST = -2147483648
GREATEST = 2147483647


def stop(change=0):
    return [1, change]


def trip(days, *rows):
    numbers = [number for row in rows for number in row]
    return [2, days, len(numbers)] + numbers


def ride(start, goes, goal, comes, days=EVERY_DAY):
    """A trip of two calls, which comes and goes in one minute at each."""
    return trip(days, (start, goes, goes), (goal, comes, comes))


def walk(start, goal, minutes):
    return [3, start, goal, minutes]


def late(number, day, call, minutes):
    return [4, number, day, call, minutes]


def earliest(start, goal, day, minute):
    return [5, start, goal, day, minute]


def latest(start, goal, day, minute):
    return [6, start, goal, day, minute]


def line(*calls):
    return [number for call in calls for number in call]


def split(told):
    """The answers one by one, each a list, without the counts ahead of them."""
    found = []
    place = 0
    while place < len(told):
        behind = place + 1 + told[place]
        found.append(told[place + 1:behind])
        place = behind
    if place != len(told):
        raise AssertionError(f"an answer is cut off in {told}")
    return found


def ask(*calls):
    return split(answers(line(*calls)))


def last_of(*calls):
    return ask(*calls)[-1]
