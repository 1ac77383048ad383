"""How the tests write a line of calls, and read its answers."""

from timeways.timetable import answers

EVERY_DAY = 127
LEAST = -2147483648
GREATEST = 2147483647
MOST_ROWS = 4096


def stop(change=0):
    return [1, change]


def trip(days, *rows):
    numbers = [number for row in rows for number in row]
    return [2, days, len(numbers)] + numbers


def ride(start, goes, goal, comes, days=EVERY_DAY):
    """A trip of two calls, which comes and goes in one minute at each."""
    return trip(days, (start, goes, goes), (goal, comes, comes))


def walk(start, goal, minutes):
    return [3, start, goal, minutes]


def late(number, day, call, minutes):
    return [4, number, day, call, minutes]


def earliest(start, goal, day, minute):
    return [5, start, goal, day, minute]


def latest(start, goal, day, minute):
    return [6, start, goal, day, minute]


def front(start, goal, day, minute, most=MOST_ROWS):
    return [7, start, goal, day, minute, most]


def profile(start, goal, day, first, last, most=MOST_ROWS):
    return [8, start, goal, day, first, last, most]


def reach(start, day, minute, most=MOST_ROWS):
    return [9, start, day, minute, most]


def journey(start, goal, day, minute, most=MOST_ROWS):
    return [10, start, goal, day, minute, most]


def board(where, day, minute, most=MOST_ROWS):
    return [11, where, day, minute, most]


def line(*calls):
    return [number for call in calls for number in call]


def split(told):
    """The answers one by one, each a list, without the counts ahead of them."""
    found = []
    place = 0
    while place < len(told):
        behind = place + 1 + told[place]
        found.append(told[place + 1:behind])
        place = behind
    if place != len(told):
        raise AssertionError(f"an answer is cut off in {told}")
    return found


def ask(*calls):
    return split(answers(line(*calls)))


def last_of(*calls):
    return ask(*calls)[-1]


def long_trip(chance, stop_count):
    rows = []
    minute = chance.randrange(2000)
    for count in range(64):
        come = min(2879, minute + chance.randrange(14))
        minute = min(2879, come + chance.randrange(3))
        rows.append((chance.randrange(stop_count), come, minute))
    return trip(EVERY_DAY, *rows)


def timetable(chance, stop_count, trip_count, walk_count):
    calls = [stop(chance.randrange(6)) for count in range(stop_count)]
    calls += [long_trip(chance, stop_count) for count in range(trip_count)]
    for count in range(walk_count):
        calls.append(walk(chance.randrange(stop_count), chance.randrange(stop_count), chance.randrange(30)))
    return calls
