"""The largest lists that may be handed in."""

import random
import time
import unittest

from lines import EVERY_DAY, earliest, late, latest, line, split, stop, trip, walk
from timeways.timetable import answers

MOST_NUMBERS = 30000
MOST_CALLS = 300
# Many times what is needed: a list that is gone through again for each ride would take longer.
SECONDS = 60


def long_trip(chance, stop_count):
    rows = []
    minute = chance.randrange(2000)
    for count in range(64):
        come = min(2879, minute + chance.randrange(14))
        minute = min(2879, come + chance.randrange(3))
        rows.append((chance.randrange(stop_count), come, minute))
    return trip(EVERY_DAY, *rows)


def timetable(chance, stop_count, trip_count, walk_count):
    calls = [stop(chance.randrange(6)) for count in range(stop_count)]
    calls += [long_trip(chance, stop_count) for count in range(trip_count)]
    for count in range(walk_count):
        calls.append(walk(chance.randrange(stop_count), chance.randrange(stop_count), chance.randrange(30)))
    return calls


def question(chance, stop_count):
    kind = chance.choice((earliest, latest))
    return kind(chance.randrange(stop_count), chance.randrange(stop_count), chance.randrange(7),
                chance.choice((0, 1440, 2879)))


class Size(unittest.TestCase):
    def answered(self, calls):
        handed = line(*calls)
        self.assertLessEqual(len(calls), MOST_CALLS)
        self.assertLessEqual(len(handed), MOST_NUMBERS)
        begun = time.monotonic()
        told = split(answers(handed))
        self.assertLess(time.monotonic() - begun, SECONDS)
        self.assertEqual(len(told), len(calls))
        return told

    def test_many_questions_on_many_long_trips(self):
        for stop_count, trip_count, walk_count in ((2, 147, 0), (60, 120, 20), (120, 60, 40)):
            chance = random.Random(stop_count)
            calls = timetable(chance, stop_count, trip_count, walk_count)
            while len(calls) < MOST_CALLS:
                calls.append(question(chance, stop_count))
            self.answered(calls)

    def test_lateness_between_all_questions(self):
        chance = random.Random(7)
        calls = timetable(chance, 3, 147, 0)
        while len(calls) < MOST_CALLS - 1:
            calls.append(late(chance.randrange(147), chance.randrange(7), chance.randrange(64), chance.randrange(241)))
            calls.append(question(chance, 3))
        self.answered(calls)

    def test_a_ride_for_each_stop(self):
        # The later a trip is told, the earlier one has to board it: each takes one ride more.
        calls = [stop(0)] * 140
        calls += [trip(EVERY_DAY, (at, 10, 10), (at + 1, 10, 10)) for at in reversed(range(139))]
        told = self.answered(calls + [earliest(0, 139, 0, 10), latest(0, 139, 0, 10)] * 10)
        self.assertEqual(told[-20:], [[0, 10, 139]] * 20)

    def test_numbers_to_the_last(self):
        calls = timetable(random.Random(3), 2, 153, 0)
        calls += [earliest(0, 1, 0, 0)] * ((MOST_NUMBERS - len(line(*calls))) // 5)
        self.assertGreater(len(line(*calls)), MOST_NUMBERS - 5)
        self.answered(calls)


if __name__ == "__main__":
    unittest.main()
