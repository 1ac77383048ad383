"""Points 8 and 13: the earliest arrival by ever more rides."""

import unittest

from lines import GREATEST, LEAST, ask, earliest, front, last_of, late, ride, stop, trip, walk


def ladder(rungs):
    """From 0 to 1 at minute 0 by k rides one is there at 100 - k, for each k of the rungs.

    Rides lead on from 0 over the stops 2, 3, 4 .., and from each of these one to 1.
    """
    chain = [0] + list(range(2, 11))
    calls = [stop(0) for count in range(11)]
    calls += [ride(chain[at], at, chain[at + 1], at, days=1) for at in range(9)]
    calls += [ride(chain[rung - 1], 50, 1, 100 - rung, days=1) for rung in rungs if rung > 0]
    calls += [walk(0, 1, 100)] if 0 in rungs else []
    return calls


class Front(unittest.TestCase):
    def test_a_walk_a_ride_and_two(self):
        calls = [stop(), stop(), stop(), walk(0, 2, 90), ride(0, 10, 2, 60), ride(0, 10, 1, 20), ride(1, 20, 2, 40)]
        self.assertEqual(last_of(*calls, front(0, 2, 0, 0)), [3, 0, 90, 1, 60, 2, 40])
        self.assertEqual(last_of(*calls, front(0, 1, 0, 0)), [1, 1, 20])

    def test_only_where_it_is_earlier(self):
        calls = [stop(), stop(), stop(), ride(0, 10, 2, 40), ride(0, 10, 1, 20), ride(1, 20, 2, 40)]
        self.assertEqual(last_of(*calls, front(0, 2, 0, 0)), [1, 1, 40])
        self.assertEqual(last_of(*calls, walk(0, 2, 40), front(0, 2, 0, 0)), [1, 0, 40])
        self.assertEqual(last_of(*calls, walk(0, 2, 40), front(0, 2, 0, 1)), [2, 0, 41, 1, 40])

    def test_k_from_0_to_8(self):
        rows = [number for k in range(9) for number in (k, 100 - k)]
        self.assertEqual(last_of(*ladder(range(10)), front(0, 1, 0, 0)), [9] + rows)
        self.assertEqual(last_of(*ladder(range(10)), earliest(0, 1, 0, 0)), [0, 91, 9])

    def test_no_rows_between(self):
        self.assertEqual(last_of(*ladder((2, 8)), front(0, 1, 0, 0)), [2, 2, 98, 8, 92])

    def test_by_9_rides_alone(self):
        told = ask(*ladder((9,)), front(0, 1, 0, 0), earliest(0, 1, 0, 0))
        self.assertEqual(told[-2:], [[0], [0, 91, 9]])

    def test_by_8_rides_alone(self):
        self.assertEqual(last_of(*ladder((8, 9)), front(0, 1, 0, 0)), [1, 8, 92])

    def test_where_one_is(self):
        told = ask(stop(9), walk(0, 0, 0), front(0, 0, 0, 0), front(0, 0, 6, 2879))
        self.assertEqual(told[2:], [[1, 0, 0], [1, 0, 2879]])

    def test_no_way(self):
        self.assertEqual(last_of(stop(), stop(), ride(1, 10, 0, 20), front(0, 1, 0, 0)), [0])

    def test_changes_walks_and_days(self):
        calls = [stop(5), stop(5), stop(5), stop(5), ride(0, 1430, 1, 1450, days=64), ride(1, 14, 2, 20),
                 ride(1, 15, 2, 30), walk(2, 3, 4), ride(0, 1430, 3, 1500, days=1)]
        self.assertEqual(last_of(*calls, front(0, 3, 6, 0)), [2, 1, 2940, 2, 1474])
        self.assertEqual(last_of(*calls, front(0, 3, 0, 0)), [1, 1, 1500])
        self.assertEqual(last_of(*calls, front(1, 3, 0, 0)), [1, 1, 24])

    def test_late(self):
        calls = [stop(), stop(), stop(), ride(0, 10, 2, 60), trip(127, (0, 10, 10), (1, 20, 20)), ride(1, 20, 2, 40)]
        self.assertEqual(last_of(*calls, late(1, 3, 0, 1), front(0, 2, 3, 0)), [1, 1, 60])
        self.assertEqual(last_of(*calls, late(1, 3, 1, 1), front(0, 2, 3, 0)), [2, 1, 60, 2, 40])


class Most(unittest.TestCase):
    def test_just_enough_and_one_too_few(self):
        for rungs in ((0,), (1, 3), tuple(range(9))):
            told = ask(*ladder(rungs), front(0, 1, 0, 0, len(rungs)), front(0, 1, 0, 0, len(rungs) - 1))
            self.assertEqual((told[-2][0], told[-1]), (len(rungs), [-3]))

    def test_0(self):
        told = ask(stop(), stop(), front(0, 1, 0, 0, 0), front(0, 0, 0, 0, 0))
        self.assertEqual(told[2:], [[0], [-3]])

    def test_4096(self):
        self.assertEqual(last_of(stop(), front(0, 0, 0, 0, 4096)), [1, 0, 0])


class Refused(unittest.TestCase):
    def test_out_of_range(self):
        wrong = [front(2, 0, 0, 0), front(0, 2, 0, 0), front(-1, 0, 0, 0), front(0, -1, 0, 0), front(0, 0, 7, 0),
                 front(0, 0, -1, 0), front(0, 0, 0, 2880), front(0, 0, 0, -1), front(0, 0, 0, 0, 4097),
                 front(0, 0, 0, 0, -1), front(GREATEST, 0, 0, 0), front(0, LEAST, 0, 0), front(0, 0, GREATEST, 0),
                 front(0, 0, 0, LEAST), front(0, 0, 0, 0, LEAST), front(0, 0, 0, 0, GREATEST)]
        self.assertEqual(ask(stop(), stop(), *wrong)[2:], [[-2]] * len(wrong))
        self.assertEqual(ask(front(0, 0, 0, 0)), [[-2]])

    def test_the_range_comes_before_most(self):
        wrong = [front(0, 1, 0, 0, 0), front(0, 0, 7, 0, 0), front(0, 0, 0, 2880, 0)]
        self.assertEqual(ask(stop(), *wrong)[1:], [[-2]] * 3)


if __name__ == "__main__":
    unittest.main()
