"""Small timetables, made by chance from fixed seeds, answered as the document's words played out."""

import random
import unittest

from lines import ask, earliest, late, latest, line, stop, trip, walk
from slow import SlowTimetable

# Trips and questions meet in a few short stretches, so that changes are close and days overlap.
TRIP_STRETCHES = (0, 1440, 1440, 2780)
QUESTION_STRETCHES = (0, 0, 1400, 1440, 2780)


class Game:
    """One line of calls, told to the program and to the slow timetable alike."""

    def __init__(self, seed):
        self.chance = random.Random(seed)
        self.slow = SlowTimetable()
        self.calls = []
        self.expected = []

    def tell(self, call, answer):
        self.calls.append(call)
        self.expected.append(answer)

    def pick_stop(self):
        return self.chance.randrange(len(self.slow.changes))

    def add_stop(self):
        change = self.chance.choice((0, 0, 1, 3, 5, 12))
        self.tell(stop(change), self.slow.stop(change))

    def add_walk(self):
        told = (self.pick_stop(), self.pick_stop(), self.chance.choice((0, 1, 2, 5, 10, 30)))
        self.tell(walk(*told), self.slow.walk(*told))

    def add_trip(self):
        rows = []
        minute = self.chance.choice(TRIP_STRETCHES) + self.chance.randrange(50)
        for count in range(self.chance.randint(2, 5)):
            come = minute + self.chance.choice((0, 1, 3, 7))
            minute = come + self.chance.choice((0, 0, 1, 4))
            rows.append((self.pick_stop(), come, minute))
        days = self.chance.choice((127, 127, self.chance.randint(1, 127)))
        self.tell(trip(days, *rows), self.slow.trip(days, rows))

    def add_late(self):
        if self.slow.trips:
            number = self.chance.randrange(len(self.slow.trips))
            told = (number, self.chance.randrange(7), self.chance.randrange(6), self.chance.choice((0, 1, 4, 20)))
            self.tell(late(*told), self.slow.late(*told))

    def ask_both(self):
        minute = self.chance.choice(QUESTION_STRETCHES) + self.chance.randrange(90)
        asked = (self.pick_stop(), self.pick_stop(), self.chance.randrange(7), minute)
        self.tell(earliest(*asked), self.slow.earliest(*asked))
        self.tell(latest(*asked), self.slow.latest(*asked))

    def play(self):
        for count in range(self.chance.randint(2, 6)):
            self.add_stop()
        for count in range(self.chance.randint(3, 12)):
            self.add_trip()
        for count in range(self.chance.randint(0, 5)):
            self.add_walk()
        for count in range(4):
            self.ask_both()
            self.chance.choice((self.add_late, self.add_walk, self.add_trip))()


class AgainstSlow(unittest.TestCase):
    def test_games(self):
        ways = 0
        for seed in range(250):
            game = Game(seed)
            game.play()
            told = ask(*game.calls)
            ways += sum(len(answer) == 3 for answer in told)
            self.assertEqual(told, game.expected, f"seed {seed}: {line(*game.calls)}")
        # Games in which nobody gets anywhere would show nothing.
        self.assertGreater(ways, 600)


if __name__ == "__main__":
    unittest.main()
