"""The largest lists that may be handed in."""

import random
import time
import unittest

from lines import (
    EVERY_DAY, board, earliest, front, journey, late, latest, line, profile, reach, split, stop, timetable, trip, walk,
)
from timeways.timetable import answers

MOST_NUMBERS = 30000
MOST_CALLS = 300
MOST_PROFILES_AND_BOARDS = 40
PROFILE = 8
BOARD = 11
# Many times what is needed: a list that is gone through again for each ride would take longer.
SECONDS = 60


def question(chance, stop_count):
    asks = chance.choice((earliest, latest, front, journey, reach))
    places = [chance.randrange(stop_count) for count in range(1 if asks == reach else 2)]
    return asks(*places, chance.randrange(7), chance.choice((0, 1440, 2879)))


def profile_or_board(chance, stop_count):
    if chance.randrange(2) == 0:
        return board(chance.randrange(stop_count), chance.randrange(7), 0)
    return profile(chance.randrange(stop_count), chance.randrange(stop_count), chance.randrange(7), 0, 2879)


def backward_trips(stop_count):
    """Trips in one minute, from each stop to the next, but the next ones first: each stop takes one ride more."""
    steps = [(at, at + 1) for at in reversed(range(stop_count - 1))]
    trips = []
    for begin in range(0, len(steps), 32):
        trips.append(trip(EVERY_DAY, *[(at, 10, 10) for step in steps[begin:begin + 32] for at in step]))
    return trips


def hub(stop_count, trip_count, walk_count):
    """Trips that come back to stop 0 again and again, and walks from there to all other stops."""
    calls = [stop(0)] * stop_count
    for number in range(trip_count):
        rows = []
        minute = number % 40
        for count in range(64):
            rows.append((0 if count % 2 == 1 else 1 + (number * 7 + count) % (stop_count - 1), minute, minute))
            minute = min(2879, minute + (23 if count % 3 else 68))
        calls.append(trip(EVERY_DAY, *rows))
    return calls + [walk(0, 1 + number % (stop_count - 1), number % 50 + 1) for number in range(walk_count)]


class Size(unittest.TestCase):
    def answered(self, calls):
        handed = line(*calls)
        self.assertLessEqual(len(calls), MOST_CALLS)
        self.assertLessEqual(len(handed), MOST_NUMBERS)
        self.assertLessEqual(sum(call[0] in (PROFILE, BOARD) for call in calls), MOST_PROFILES_AND_BOARDS)
        begun = time.monotonic()
        told = split(answers(handed))
        self.assertLess(time.monotonic() - begun, SECONDS)
        self.assertEqual(len(told), len(calls))
        return told

    def test_many_questions_on_many_long_trips(self):
        for stop_count, trip_count, walk_count in ((2, 147, 0), (60, 120, 20), (120, 60, 40)):
            chance = random.Random(stop_count)
            calls = timetable(chance, stop_count, trip_count, walk_count)
            while len(calls) < MOST_CALLS:
                calls.append(question(chance, stop_count))
            self.answered(calls)

    def test_lateness_between_all_questions(self):
        chance = random.Random(7)
        calls = timetable(chance, 3, 147, 0)
        while len(calls) < MOST_CALLS - 1:
            calls.append(late(chance.randrange(147), chance.randrange(7), chance.randrange(64), chance.randrange(241)))
            calls.append(question(chance, 3))
        self.answered(calls)

    def test_a_ride_for_each_stop(self):
        # The later a trip is told, the earlier one has to board it: each takes one ride more.
        calls = [stop(0)] * 140
        calls += [trip(EVERY_DAY, (at, 10, 10), (at + 1, 10, 10)) for at in reversed(range(139))]
        told = self.answered(calls + [earliest(0, 139, 0, 10), latest(0, 139, 0, 10)] * 10)
        self.assertEqual(told[-20:], [[0, 10, 139]] * 20)

    def test_40_profiles_and_boards(self):
        for stop_count, trip_count, walk_count in ((2, 147, 100), (60, 120, 80), (120, 60, 80)):
            chance = random.Random(stop_count)
            calls = timetable(chance, stop_count, trip_count, walk_count)
            self.answered(calls + [profile_or_board(chance, stop_count) for count in range(40)])

    def test_40_profiles_with_lateness_between_them(self):
        chance = random.Random(8)
        calls = timetable(chance, 20, 147, 40)
        for count in range(40):
            calls.append(late(chance.randrange(147), chance.randrange(7), chance.randrange(64), chance.randrange(241)))
            calls.append(profile(chance.randrange(20), chance.randrange(20), chance.randrange(7), 0, 2879))
        self.answered(calls)

    def test_40_profiles_from_where_many_trips_and_walks_begin(self):
        for stop_count, trip_count, walk_count in ((3, 140, 110), (60, 100, 100), (100, 60, 100)):
            calls = hub(stop_count, trip_count, walk_count)
            told = self.answered(calls + [profile(0, goal % stop_count, 2, 0, 2879) for goal in range(40)])
            self.assertEqual(told[-40][0], 2880)
            self.assertGreater(min(answer[0] for answer in told[-39:]), 100)

    def test_40_boards_of_4096_rows(self):
        calls = timetable(random.Random(9), 2, 147, 0)
        told = self.answered(calls + [board(0, count % 7, 0, 4096) for count in range(40)])
        self.assertEqual({answer[0] for answer in told[-40:]}, {4096})

    def test_journeys_of_many_legs(self):
        for stop_count, copies in ((250, 4), (130, 24), (97, 48)):
            calls = [stop(0)] * stop_count + backward_trips(stop_count) * copies
            asked = MOST_CALLS - len(calls)
            told = self.answered(calls + [journey(0, stop_count - 1, 0, 10)] * asked)
            self.assertEqual({answer[0] for answer in told[-asked:]}, {stop_count - 1})
            # Of all copies it is the first that is ridden.
            self.assertLess(max(told[-1][1::5]), len(backward_trips(stop_count)))

    def test_journeys_of_many_legs_with_walks_between_them(self):
        calls = [stop(0)] * 90 + backward_trips(90) * 12 + [walk(at, at, 0) for at in range(90)]
        told = self.answered(calls + [journey(0, 89, 0, 10)] * (MOST_CALLS - len(calls)))
        self.assertEqual(told[-1][0], 178)
        self.assertEqual(told[-1][1::10], [-1] * 89)

    def test_numbers_to_the_last(self):
        calls = timetable(random.Random(3), 2, 153, 0)
        calls += [earliest(0, 1, 0, 0)] * ((MOST_NUMBERS - len(line(*calls))) // 5)
        self.assertGreater(len(line(*calls)), MOST_NUMBERS - 5)
        self.answered(calls)


if __name__ == "__main__":
    unittest.main()
