"""Points 9 and 13: the minutes from which it is worth going."""

import random
import unittest

from lines import GREATEST, LEAST, ask, earliest, last_of, late, profile, ride, stop, timetable, walk

TWO_TRAINS = [stop(), stop(), ride(0, 100, 1, 130, days=1), ride(0, 200, 1, 230, days=1)]


class Trains(unittest.TestCase):
    def test_each_train(self):
        self.assertEqual(last_of(*TWO_TRAINS, profile(0, 1, 0, 0, 2879)), [2, 100, 130, 200, 230])

    def test_not_one_that_is_overtaken(self):
        calls = [stop(), stop(), ride(0, 100, 1, 250, days=1), ride(0, 200, 1, 230, days=1)]
        self.assertEqual(last_of(*calls, profile(0, 1, 0, 0, 2879)), [1, 200, 230])

    def test_not_one_that_is_there_at_the_same_minute(self):
        calls = [stop(), stop(), ride(0, 200, 1, 230, days=1), ride(0, 100, 1, 230, days=1)]
        self.assertEqual(last_of(*calls, profile(0, 1, 0, 0, 2879)), [1, 200, 230])
        self.assertEqual(last_of(*calls, profile(0, 1, 0, 0, 199)), [0])
        self.assertEqual(last_of(*calls, profile(0, 1, 0, 100, 100)), [0])

    def test_by_more_rides_if_that_is_earlier(self):
        calls = [stop(), stop(4), stop(), ride(0, 100, 2, 200, days=1), ride(0, 110, 1, 120, days=1),
                 ride(1, 124, 2, 150, days=1), ride(0, 115, 1, 121, days=1)]
        self.assertEqual(last_of(*calls, profile(0, 2, 0, 0, 2879)), [1, 110, 150])

    def test_a_walk_to_the_train_and_one_from_it(self):
        calls = [stop(99), stop(99), stop(99), stop(99), walk(0, 1, 9), walk(0, 1, 5), walk(0, 1, 7),
                 ride(1, 100, 2, 130, days=1), walk(2, 3, 6)]
        self.assertEqual(last_of(*calls, profile(0, 3, 0, 0, 2879)), [1, 95, 136])

    def test_the_same_train_by_a_walk_and_a_train(self):
        # From 0 one gets to the train at 1 on foot until 90, by a ride until 95.
        calls = [stop(), stop(), stop(), walk(0, 1, 10), ride(0, 95, 1, 98, days=1), ride(1, 100, 2, 120, days=1)]
        self.assertEqual(last_of(*calls, profile(0, 2, 0, 0, 2879)), [1, 95, 120])

    def test_late(self):
        told = ask(*TWO_TRAINS, late(0, 0, 0, 101), profile(0, 1, 0, 0, 300), late(0, 0, 0, 99),
                   profile(0, 1, 0, 0, 300))
        self.assertEqual(told[5::2], [[2, 200, 230, 201, 231], [2, 199, 229, 200, 230]])


class Stretch(unittest.TestCase):
    def test_first_and_last_the_same(self):
        told = ask(*TWO_TRAINS, *[profile(0, 1, 0, minute, minute) for minute in (99, 100, 101, 200, 201)])
        self.assertEqual(told[4:], [[0], [1, 100, 130], [0], [1, 200, 230], [0]])

    def test_first_and_last_are_within(self):
        told = ask(*TWO_TRAINS, profile(0, 1, 0, 100, 200), profile(0, 1, 0, 101, 200), profile(0, 1, 0, 100, 199),
                   profile(0, 1, 0, 101, 199))
        self.assertEqual(told[4:], [[2, 100, 130, 200, 230], [1, 200, 230], [1, 100, 130], [0]])

    def test_the_minute_behind_last_counts(self):
        # From 150 on the second train is taken; from 149 as well.
        told = ask(*TWO_TRAINS, walk(0, 1, 80), profile(0, 1, 0, 149, 149), profile(0, 1, 0, 150, 150))
        self.assertEqual(told[5:], [[1, 149, 229], [0]])

    def test_2879_and_never_after(self):
        calls = [stop(), stop(), ride(0, 2879, 1, 2879, days=1)]
        told = ask(*calls, profile(0, 1, 0, 2879, 2879), profile(0, 1, 0, 0, 2879), profile(0, 1, 0, 0, 2878))
        self.assertEqual(told[3:], [[1, 2879, 2879], [1, 2879, 2879], [0]])

    def test_2879_and_as_early_after(self):
        calls = [stop(), stop(), ride(0, 1440, 1, 1450, days=2)]
        self.assertEqual(last_of(*calls, profile(0, 1, 0, 0, 2879)), [0])

    def test_2879_and_later_after(self):
        calls = [stop(), stop(), ride(0, 1440, 1, 1450, days=2), ride(0, 1439, 1, 1449, days=2)]
        self.assertEqual(last_of(*calls, profile(0, 1, 0, 0, 2879)), [1, 2879, 2889])

    def test_the_day_before_and_the_day_after(self):
        calls = [stop(), stop(), ride(0, 1440, 1, 1450, days=64), ride(0, 20, 1, 30, days=1),
                 ride(0, 30, 1, 40, days=2), ride(0, 50, 1, 60, days=32 + 4)]
        self.assertEqual(last_of(*calls, profile(0, 1, 0, 0, 2879)), [3, 0, 10, 20, 30, 1470, 1480])

    def test_ways_that_last_longer_than_the_stretch(self):
        calls = [stop(), stop(), stop(), ride(0, 2870, 1, 2875, days=1), ride(1, 1435, 2, 2879, days=2)]
        self.assertEqual(last_of(*calls, profile(0, 2, 0, 2860, 2879)), [1, 2870, 4319])


class OnFoot(unittest.TestCase):
    def test_each_minute(self):
        calls = [stop(), stop(), walk(0, 1, 7)]
        self.assertEqual(last_of(*calls, profile(0, 1, 3, 10, 12)), [3, 10, 17, 11, 18, 12, 19])
        self.assertEqual(last_of(*calls, profile(0, 1, 3, 2879, 2879)), [1, 2879, 2886])

    def test_the_shortest_walk(self):
        calls = [stop(), stop(), walk(0, 1, 7), walk(0, 1, 3), walk(0, 1, 5)]
        self.assertEqual(last_of(*calls, profile(0, 1, 3, 10, 10)), [1, 10, 13])

    def test_not_two_walks(self):
        self.assertEqual(last_of(stop(), stop(), stop(), walk(0, 1, 5), walk(1, 2, 5), profile(0, 2, 0, 0, 2879)), [0])

    def test_on_foot_or_by_train(self):
        # Until 79 one is there earlier on foot; from 80 to 100 by the train, at 110.
        told = last_of(stop(), stop(), walk(0, 1, 30), ride(0, 100, 1, 110, days=1), profile(0, 1, 0, 78, 102))
        self.assertEqual(told, [5, 78, 108, 79, 109, 100, 110, 101, 131, 102, 132])

    def test_where_one_is(self):
        told = ask(stop(3), walk(0, 0, 2), profile(0, 0, 0, 5, 7), profile(0, 0, 0, 0, 2879))
        self.assertEqual(told[2], [3, 5, 5, 6, 6, 7, 7])
        self.assertEqual(told[3], [2880] + [number for minute in range(2880) for number in (minute, minute)])

    def test_no_way(self):
        self.assertEqual(last_of(stop(), stop(), walk(1, 0, 3), profile(0, 1, 0, 0, 2879)), [0])


class AgainstEarliest(unittest.TestCase):
    """Minute by minute what earliest answers, on a timetable of long trips."""

    def minutes(self, calls, start, goal, day, first, last):
        found = []
        for begin in range(first, last + 2, 100):
            asked = [earliest(start, goal, day, minute) for minute in range(begin, min(begin + 100, last + 2))]
            found += ask(*calls, *asked)[len(calls):]
        rows = []
        for minute in range(first, last + 1):
            now, after = found[minute - first], found[minute + 1 - first]
            if now[0] == 0 and (after == [-1] or now[1] < after[1]):
                rows += [minute, now[1]]
        return [len(rows) // 2] + rows

    def test_long_trips(self):
        for seed, stop_count in ((1, 12), (2, 40)):
            calls = timetable(random.Random(seed), stop_count, 20, 20)
            for start, goal, first, last in ((0, 1, 0, 700), (2, 3, 2000, 2878)):
                told = last_of(*calls, profile(start, goal, seed, first, last))
                self.assertEqual(told, self.minutes(calls, start, goal, seed, first, last))


class Most(unittest.TestCase):
    def test_just_enough_and_one_too_few(self):
        told = ask(*TWO_TRAINS, profile(0, 1, 0, 0, 2879, 2), profile(0, 1, 0, 0, 2879, 1))
        self.assertEqual(told[4:], [[2, 100, 130, 200, 230], [-3]])
        told = ask(stop(), profile(0, 0, 0, 0, 2879, 2880), profile(0, 0, 0, 0, 2879, 2879))
        self.assertEqual((told[1][0], told[2]), (2880, [-3]))

    def test_0(self):
        told = ask(*TWO_TRAINS, profile(0, 1, 0, 201, 2879, 0), profile(0, 1, 0, 200, 2879, 0))
        self.assertEqual(told[4:], [[0], [-3]])


class Refused(unittest.TestCase):
    def test_out_of_range(self):
        wrong = [profile(2, 0, 0, 0, 0), profile(0, 2, 0, 0, 0), profile(-1, 0, 0, 0, 0), profile(0, -1, 0, 0, 0),
                 profile(0, 0, 7, 0, 0), profile(0, 0, -1, 0, 0), profile(0, 0, 0, 2880, 2880),
                 profile(0, 0, 0, -1, 0), profile(0, 0, 0, 0, 2880), profile(0, 0, 0, -1, -1),
                 profile(0, 0, 0, 0, 0, 4097), profile(0, 0, 0, 0, 0, -1), profile(GREATEST, 0, 0, 0, 0),
                 profile(0, LEAST, 0, 0, 0), profile(0, 0, LEAST, 0, 0), profile(0, 0, 0, LEAST, 0),
                 profile(0, 0, 0, 0, GREATEST), profile(0, 0, 0, 0, 0, LEAST), profile(0, 0, 0, 0, 0, GREATEST)]
        self.assertEqual(ask(stop(), stop(), *wrong)[2:], [[-2]] * len(wrong))
        self.assertEqual(ask(profile(0, 0, 0, 0, 0)), [[-2]])

    def test_last_before_first(self):
        told = ask(stop(), profile(0, 0, 0, 1, 0), profile(0, 0, 0, 2879, 2878), profile(0, 0, 0, 5, 5))
        self.assertEqual(told[1:], [[-2], [-2], [1, 5, 5]])

    def test_the_range_comes_before_most(self):
        wrong = [profile(0, 1, 0, 0, 5, 0), profile(0, 0, 7, 0, 5, 0), profile(0, 0, 0, 5, 4, 0)]
        self.assertEqual(ask(stop(), *wrong)[1:], [[-2]] * 3)


if __name__ == "__main__":
    unittest.main()
