"""Points 10 and 13: everywhere one can get to."""

import random
import unittest

from lines import GREATEST, LEAST, ask, earliest, last_of, late, reach, ride, stop, timetable, walk


class Reach(unittest.TestCase):
    def test_each_stop_in_their_order(self):
        calls = [stop(3), stop(3), stop(3), stop(3), ride(2, 100, 0, 130, days=1), walk(0, 3, 8),
                 ride(0, 133, 1, 150, days=1)]
        self.assertEqual(last_of(*calls, reach(2, 0, 90)), [4, 130, 150, 90, 138])

    def test_one_that_cannot_be_reached_among_those_that_can(self):
        calls = [stop(), stop(), stop(), stop(), walk(0, 2, 5), ride(3, 10, 1, 20), ride(2, 5, 3, 9, days=1)]
        self.assertEqual(last_of(*calls, reach(0, 0, 0)), [4, 0, 20, 5, 9])
        self.assertEqual(last_of(*calls, reach(0, 0, 1)), [4, 1, -1, 6, -1])
        self.assertEqual(last_of(*calls, reach(2, 1, 0)), [4, -1, -1, 0, -1])

    def test_one_stop_alone(self):
        told = ask(stop(120), reach(0, 0, 0), reach(0, 6, 2879), walk(0, 0, 0), reach(0, 0, 7))
        self.assertEqual([told[1], told[2], told[4]], [[1, 0], [1, 2879], [1, 7]])

    def test_not_two_walks(self):
        self.assertEqual(last_of(stop(), stop(), stop(), walk(0, 1, 5), walk(1, 2, 5), reach(0, 0, 0)), [3, 0, 5, -1])

    def test_the_day_before_and_the_day_after(self):
        calls = [stop(), stop(), stop(), ride(0, 1450, 1, 1460, days=64), ride(0, 1430, 2, 1500, days=2)]
        self.assertEqual(last_of(*calls, reach(0, 0, 10)), [3, 10, 20, 2940])
        self.assertEqual(last_of(*calls, reach(0, 0, 11)), [3, 11, -1, 2940])

    def test_late(self):
        calls = [stop(), stop(5), stop(), ride(0, 10, 1, 20), ride(1, 25, 2, 30, days=1)]
        told = ask(*calls, reach(0, 0, 0), late(0, 0, 0, 1), reach(0, 0, 0))
        self.assertEqual(told[5::2], [[3, 0, 20, 30], [3, 0, 21, -1]])

    def test_what_earliest_answers(self):
        calls = timetable(random.Random(5), 60, 20, 20)
        told = ask(*calls, reach(0, 2, 800), *[earliest(0, goal, 2, 800) for goal in range(60)])
        found = [answer[-2] if answer[0] == 0 else -1 for answer in told[-60:]]
        self.assertEqual(told[-61], [60] + found)
        self.assertGreater(len(set(found)), 20)

    def test_256_stops(self):
        calls = [stop(0)] * 257 + [walk(9, 255, 240)]
        self.assertEqual(last_of(*calls, reach(9, 0, 2879)), [256] + [-1] * 9 + [2879] + [-1] * 245 + [3119])


class Most(unittest.TestCase):
    def test_just_enough_and_one_too_few(self):
        told = ask(stop(), stop(), stop(), reach(0, 0, 5, 3), reach(0, 0, 5, 2))
        self.assertEqual(told[3:], [[3, 5, -1, -1], [-3]])
        told = ask(*[stop(0)] * 256, reach(0, 0, 5, 256), reach(0, 0, 5, 255), reach(0, 0, 5, 4096))
        self.assertEqual([answer[0] for answer in told[256:]], [256, -3, 256])

    def test_0(self):
        self.assertEqual(ask(stop(), reach(0, 0, 0, 0), reach(0, 0, 0, 1))[1:], [[-3], [1, 0]])


class Refused(unittest.TestCase):
    def test_out_of_range(self):
        wrong = [reach(2, 0, 0), reach(-1, 0, 0), reach(0, 7, 0), reach(0, -1, 0), reach(0, 0, 2880),
                 reach(0, 0, -1), reach(0, 0, 0, 4097), reach(0, 0, 0, -1), reach(GREATEST, 0, 0),
                 reach(0, LEAST, 0), reach(0, 0, GREATEST), reach(0, 0, 0, LEAST), reach(0, 0, 0, GREATEST)]
        self.assertEqual(ask(stop(), stop(), *wrong)[2:], [[-2]] * len(wrong))
        self.assertEqual(ask(reach(0, 0, 0)), [[-2]])

    def test_the_range_comes_before_most(self):
        wrong = [reach(1, 0, 0, 0), reach(0, 7, 0, 0), reach(0, 0, 2880, 0)]
        self.assertEqual(ask(stop(), *wrong)[1:], [[-2]] * 3)


if __name__ == "__main__":
    unittest.main()
