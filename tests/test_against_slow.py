"""Small timetables, made by chance from fixed seeds, answered as the document's words played out."""

import random
import unittest

from lines import ask, board, earliest, front, journey, late, latest, line, profile, reach, stop, trip, walk
from slow import SlowTimetable

# Trips and questions meet in a few short stretches, so that changes are close and days overlap.
TRIP_STRETCHES = (0, 1440, 1440, 2780)
QUESTION_STRETCHES = (0, 0, 1400, 1440, 2780)


class Game:
    """One line of calls, told to the program and to the slow timetable alike."""

    def __init__(self, seed):
        self.chance = random.Random(seed)
        self.slow = SlowTimetable()
        self.calls = []
        self.expected = []

    def tell(self, call, answer):
        self.calls.append(call)
        self.expected.append(answer)

    def pick_stop(self):
        return self.chance.randrange(len(self.slow.changes))

    def add_stop(self):
        change = self.chance.choice((0, 0, 1, 3, 5, 12))
        self.tell(stop(change), self.slow.stop(change))

    def add_walk(self):
        told = (self.pick_stop(), self.pick_stop(), self.chance.choice((0, 1, 2, 5, 10, 30)))
        self.tell(walk(*told), self.slow.walk(*told))

    def add_trip(self):
        rows = []
        minute = self.chance.choice(TRIP_STRETCHES) + self.chance.randrange(50)
        for count in range(self.chance.randint(2, 5)):
            come = minute + self.chance.choice((0, 1, 3, 7))
            minute = come + self.chance.choice((0, 0, 1, 4))
            rows.append((self.pick_stop(), come, minute))
        days = self.chance.choice((127, 127, self.chance.randint(1, 127)))
        self.tell(trip(days, *rows), self.slow.trip(days, rows))

    def add_late(self):
        if self.slow.trips:
            number = self.chance.randrange(len(self.slow.trips))
            told = (number, self.chance.randrange(7), self.chance.randrange(6), self.chance.choice((0, 1, 4, 20)))
            self.tell(late(*told), self.slow.late(*told))

    def ask_both(self):
        minute = self.chance.choice(QUESTION_STRETCHES) + self.chance.randrange(90)
        asked = (self.pick_stop(), self.pick_stop(), self.chance.randrange(7), minute)
        self.tell(earliest(*asked), self.slow.earliest(*asked))
        self.tell(latest(*asked), self.slow.latest(*asked))

    def ask_more(self, first, last):
        """All other questions, about one way on one day; profile for a few minutes."""
        start, goal, day = self.pick_stop(), self.pick_stop(), self.chance.randrange(7)
        minute = min(2879, self.chance.randint(first, last))
        self.tell(front(start, goal, day, minute), self.slow.front(start, goal, day, minute))
        self.tell(reach(start, day, minute), self.slow.reach(start, day, minute))
        most = self.chance.choice((0, 1, 2, 5, 4096))
        self.tell(board(start, day, minute, most), self.slow.board(start, day, minute, most))
        self.ask_journey(start, goal, day, minute)
        if self.chance.randrange(4) == 0:
            last = min(2879, minute + self.chance.randrange(25))
            self.tell(profile(start, goal, day, minute, last), self.slow.profile(start, goal, day, minute, last))

    def ask_journey(self, start, goal, day, minute):
        answer = self.slow.journey(start, goal, day, minute)
        self.tell(journey(start, goal, day, minute), answer)
        if answer[0] > 0:
            self.tell(journey(start, goal, day, minute, answer[0]), answer)
            self.tell(journey(start, goal, day, minute, answer[0] - 1), [-3])

    def play(self):
        self.begin()
        for count in range(4):
            self.ask_both()
            self.tell_more()

    def play_more(self):
        self.begin()
        for count in range(4):
            first = self.chance.choice(QUESTION_STRETCHES)
            self.ask_more(first, first + 99)
            self.tell_more()

    def begin(self):
        for count in range(self.chance.randint(2, 6)):
            self.add_stop()
        for count in range(self.chance.randint(3, 12)):
            self.add_trip()
        for count in range(self.chance.randint(0, 5)):
            self.add_walk()

    def tell_more(self):
        self.chance.choice((self.add_late, self.add_walk, self.add_trip))()


class Row(Game):
    """Stops in a row, and trips and walks from neighbour to neighbour: long journeys, and many alike."""

    def play_more(self):
        self.pace = self.chance.choice((0, 1))
        for count in range(self.chance.randint(4, 10)):
            self.add_stop()
        for count in range(self.chance.randint(8, 25)):
            self.add_trip()
        for count in range(self.chance.randint(0, 8)):
            self.add_walk()
        for count in range(5):
            first = self.chance.choice((0, 0, 1440))
            self.ask_more(first, first + 5)
            self.chance.choice((self.add_late, self.add_trip))()

    def add_stop(self):
        change = self.chance.choice((0, 0, 0, self.pace))
        self.tell(stop(change), self.slow.stop(change))

    def pick_neighbour(self, where):
        return max(0, min(len(self.slow.changes) - 1, where + self.chance.choice((-1, 1, 1))))

    def add_trip(self):
        rows = []
        where = self.pick_stop()
        minute = self.chance.choice((0, 0, 0, 1440)) + 5 + self.pace * self.chance.randrange(12)
        for count in range(self.chance.randint(2, 4)):
            come = minute + self.pace * self.chance.choice((0, 0, 1))
            minute = come + self.pace * self.chance.choice((0, 0, 0, 1))
            rows.append((where, come, minute))
            where = self.pick_neighbour(where)
        self.tell(trip(127, *rows), self.slow.trip(127, rows))

    def add_walk(self):
        where = self.pick_stop()
        told = (where, self.chance.choice((where, self.pick_neighbour(where))), self.chance.choice((0, 0, 1, 2)))
        self.tell(walk(*told), self.slow.walk(*told))


class AgainstSlow(unittest.TestCase):
    def held(self, game):
        """What the program answers, which is what the slow timetable does."""
        told = ask(*game.calls)
        self.assertEqual(told, game.expected, line(*game.calls))
        return told

    def test_games(self):
        ways = 0
        for seed in range(250):
            game = Game(seed)
            game.play()
            ways += sum(len(answer) == 3 for answer in self.held(game))
        # Games in which nobody gets anywhere would show nothing.
        self.assertGreater(ways, 600)

    def journey_lengths(self, make):
        lengths = []
        for seed in range(150):
            game = make(seed)
            game.play_more()
            told = self.held(game)
            lengths += [answer[0] for call, answer in zip(game.calls, told) if call[0] == 10 and answer[0] >= 0]
        return sorted(lengths)

    def test_more_games(self):
        lengths = self.journey_lengths(Game)
        self.assertGreater(lengths[-60], 1)

    def test_rows(self):
        lengths = self.journey_lengths(Row)
        self.assertGreater(lengths[-60], 2)


if __name__ == "__main__":
    unittest.main()
