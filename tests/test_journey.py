"""Points 5, 11 and 13: a journey leg by leg, the first of those as early and of as few rides."""

import unittest

from lines import EVERY_DAY, GREATEST, LEAST, ask, earliest, journey, last_of, late, ride, stop, trip, walk


def stops(count, change=0):
    return [stop(change)] * count


class Legs(unittest.TestCase):
    def test_none(self):
        told = ask(stop(9), journey(0, 0, 0, 0), journey(0, 0, 6, 2879, 0))
        self.assertEqual(told[1:], [[0], [0]])

    def test_a_ride(self):
        calls = [*stops(4), ride(3, 1, 0, 2), trip(1, (3, 80, 80), (0, 90, 100), (1, 110, 112), (2, 120, 125))]
        self.assertEqual(last_of(*calls, journey(0, 2, 0, 0)), [1, 1, 0, 1, 3, 120])
        self.assertEqual(last_of(*calls, journey(0, 1, 0, 100)), [1, 1, 0, 1, 2, 110])

    def test_a_walk(self):
        calls = [*stops(3), walk(0, 1, 5), walk(1, 0, 3), walk(1, 2, 8)]
        self.assertEqual(last_of(*calls, journey(1, 2, 0, 2879)), [1, -1, 2, 1, 2, 2887])

    def test_walk_ride_ride_walk(self):
        calls = [*stops(5, 3), walk(3, 4, 6), walk(0, 1, 5), ride(2, 40, 3, 50, days=1), ride(1, 20, 2, 37, days=1)]
        self.assertEqual(last_of(*calls, journey(0, 4, 0, 10)),
                         [4, -1, 1, 0, 1, 15, 1, 0, 0, 1, 37, 0, 0, 0, 1, 50, -1, 0, 3, 4, 56])

    def test_the_day_before_the_day_and_the_day_after(self):
        calls = [*stops(4), ride(0, 1450, 1, 1500, days=64), ride(1, 70, 2, 1439, days=1), ride(2, 0, 3, 9, days=2)]
        self.assertEqual(last_of(*calls, journey(0, 3, 0, 0)),
                         [3, 0, -1, 0, 1, 60, 1, 0, 0, 1, 1439, 2, 1, 0, 1, 1449])
        self.assertEqual(last_of(*calls, journey(0, 3, 0, 11)), [-1])

    def test_sunday_and_monday(self):
        calls = [*stops(2), ride(0, 1450, 1, 1460, days=1)]
        told = ask(*calls, journey(0, 1, 6, 0), journey(0, 1, 0, 0), journey(0, 1, 1, 0), journey(0, 1, 2, 0))
        self.assertEqual(told[3:], [[1, 0, 1, 0, 1, 2900], [1, 0, 0, 0, 1, 1460], [1, 0, -1, 0, 1, 20], [-1]])

    def test_late(self):
        calls = [*stops(3, 5), ride(0, 10, 1, 20), ride(1, 25, 2, 30), ride(1, 40, 2, 50)]
        told = ask(*calls, journey(0, 2, 3, 0), late(0, 3, 0, 1), journey(0, 2, 3, 0), late(1, 3, 0, 1),
                   journey(0, 2, 3, 0))
        self.assertEqual(told[6::2], [
            [2, 0, 0, 0, 1, 20, 1, 0, 0, 1, 30],
            [2, 0, 0, 0, 1, 21, 2, 0, 0, 1, 50],
            [2, 0, 0, 0, 1, 21, 1, 0, 0, 1, 31],
        ])

    def test_the_days_by_their_own_lateness(self):
        calls = [*stops(2), ride(0, 1450, 1, 1460), late(0, 6, 0, 3), late(0, 0, 0, 5), late(0, 1, 0, 240)]
        told = ask(*calls, journey(0, 1, 0, 13), journey(0, 1, 0, 14), journey(0, 1, 0, 1456))
        self.assertEqual(told[6:], [[1, 0, -1, 0, 1, 23], [1, 0, 0, 0, 1, 1465], [1, 0, 1, 0, 1, 3140]])

    def test_a_change_after_a_ride_none_after_a_walk(self):
        calls = [*stops(3, 10), ride(0, 10, 1, 20, days=1), ride(1, 29, 2, 35, days=1), ride(1, 30, 2, 40, days=1)]
        self.assertEqual(last_of(*calls, journey(0, 2, 0, 0)), [2, 0, 0, 0, 1, 20, 2, 0, 0, 1, 40])
        self.assertEqual(last_of(*calls, walk(1, 1, 9), journey(0, 2, 0, 0)),
                         [3, 0, 0, 0, 1, 20, -1, 0, 1, 1, 29, 1, 0, 0, 1, 35])

    def test_on_with_a_trip_that_one_has_got_off(self):
        # All in one minute: its last leg leads to where its first one begins.
        rows = trip(1, (1, 10, 10), (2, 10, 10), (0, 10, 10), (1, 10, 10))
        self.assertEqual(last_of(*stops(3), rows, journey(0, 2, 0, 0)), [2, 0, 0, 2, 3, 10, 0, 0, 0, 1, 10])
        self.assertEqual(last_of(*stops(3, 1), rows, journey(0, 2, 0, 0)), [-1])


class AsEarlyAsFewRides(unittest.TestCase):
    def test_earlier_comes_before_lesser_numbers(self):
        calls = [*stops(2), ride(0, 10, 1, 31), ride(0, 20, 1, 30), walk(0, 1, 31)]
        self.assertEqual(last_of(*calls, journey(0, 1, 0, 0)), [1, 1, 0, 0, 1, 30])

    def test_fewer_rides_come_before_lesser_numbers(self):
        calls = [*stops(3), ride(0, 10, 1, 20), ride(1, 20, 2, 30), ride(0, 5, 2, 30)]
        self.assertEqual(last_of(*calls, journey(0, 2, 0, 0)), [1, 2, 0, 0, 1, 30])
        self.assertEqual(last_of(*calls, journey(0, 2, 0, 6)), [2, 0, 0, 0, 1, 20, 1, 0, 0, 1, 30])

    def test_fewer_rides_come_before_fewer_legs(self):
        calls = [*stops(7), ride(0, 10, 1, 12), ride(1, 12, 2, 14), ride(2, 14, 5, 40),
                 ride(0, 10, 3, 20), walk(3, 4, 5), ride(4, 25, 6, 35), walk(6, 5, 5)]
        self.assertEqual(last_of(*calls, journey(0, 5, 0, 0)),
                         [4, 3, 0, 0, 1, 20, -1, 0, 3, 4, 25, 4, 0, 0, 1, 35, -1, 1, 6, 5, 40])

    def test_later_on_the_way_with_fewer_rides(self):
        # To 2 one is at 20 by two rides and at 25 by one; both catch what goes at 40.
        calls = [*stops(4), ride(0, 5, 1, 10), ride(1, 10, 2, 20), ride(0, 5, 2, 25), ride(2, 40, 3, 50)]
        self.assertEqual(last_of(*calls, journey(0, 3, 0, 0)), [2, 2, 0, 0, 1, 25, 3, 0, 0, 1, 50])


class First(unittest.TestCase):
    def test_the_lesser_trip(self):
        calls = [*stops(2), ride(0, 10, 1, 31), ride(0, 20, 1, 30), ride(0, 1, 1, 30), ride(0, 25, 1, 30)]
        self.assertEqual(last_of(*calls, journey(0, 1, 0, 0)), [1, 1, 0, 0, 1, 30])

    def test_the_lesser_day(self):
        # The trip of the day before and that of the day both lead to what goes at 1500.
        calls = [*stops(3), ride(0, 1450, 1, 1460), ride(1, 1500, 2, 1510, days=1)]
        self.assertEqual(last_of(*calls, journey(0, 2, 0, 0)), [2, 0, -1, 0, 1, 20, 1, 0, 0, 1, 1510])
        self.assertEqual(last_of(*calls, journey(0, 2, 0, 11)), [2, 0, 0, 0, 1, 1460, 1, 0, 0, 1, 1510])

    def test_the_trip_comes_before_the_day(self):
        calls = [*stops(3), ride(0, 10, 1, 20, days=1), ride(0, 1450, 1, 1460, days=64), ride(1, 90, 2, 95, days=1)]
        self.assertEqual(last_of(*calls, journey(0, 2, 0, 0)), [2, 0, 0, 0, 1, 20, 2, 0, 0, 1, 95])

    def test_the_lesser_call_to_get_on(self):
        calls = [*stops(3), trip(1, (0, 10, 10), (1, 15, 15), (0, 20, 20), (0, 20, 20), (2, 30, 30))]
        told = ask(*calls, journey(0, 2, 0, 10), journey(0, 2, 0, 11))
        self.assertEqual(told[4:], [[1, 0, 0, 0, 4, 30], [1, 0, 0, 2, 4, 30]])

    def test_the_lesser_call_to_get_off(self):
        calls = [*stops(3), trip(1, (0, 10, 10), (1, 20, 20), (0, 25, 25), (1, 30, 30), (1, 40, 40)),
                 ride(1, 40, 2, 50, days=1)]
        self.assertEqual(last_of(*calls, journey(0, 2, 0, 0)), [2, 0, 0, 0, 1, 20, 1, 0, 0, 1, 50])
        self.assertEqual(last_of(*calls, journey(0, 1, 0, 21)), [1, 0, 0, 2, 3, 30])

    def test_the_lesser_call_to_get_off_that_is_in_time(self):
        # A change of 20 at 1 is too long, one of 5 at 2 is not, nor one of 0 at 3.
        calls = [stop(), stop(20), stop(5), stop(0), stop(),
                 trip(1, (0, 10, 10), (1, 20, 20), (2, 25, 25), (3, 30, 30)),
                 ride(1, 39, 4, 50, days=1), ride(2, 30, 4, 50, days=1), ride(3, 30, 4, 50, days=1)]
        self.assertEqual(last_of(*calls, journey(0, 4, 0, 0)), [2, 0, 0, 0, 2, 25, 2, 0, 0, 1, 50])

    def test_the_lesser_walk(self):
        calls = [*stops(3), walk(0, 1, 9), walk(0, 1, 4), walk(0, 1, 7), ride(1, 10, 2, 20)]
        told = ask(*calls, *[journey(0, 2, 0, minute) for minute in (1, 2, 6)])
        self.assertEqual(told[7:], [
            [2, -1, 0, 0, 1, 10, 0, 0, 0, 1, 20],
            [2, -1, 1, 0, 1, 6, 0, 0, 0, 1, 20],
            [2, -1, 1, 0, 1, 10, 0, 0, 0, 1, 20],
        ])

    def test_the_shortest_walk_where_it_is_the_last_leg(self):
        calls = [*stops(2), walk(0, 1, 9), walk(0, 1, 4), walk(0, 1, 4)]
        self.assertEqual(last_of(*calls, journey(0, 1, 0, 1)), [1, -1, 1, 0, 1, 5])

    def test_walks_before_rides(self):
        calls = [*stops(3), ride(0, 10, 2, 30), ride(1, 20, 2, 30), walk(0, 1, 15)]
        told = ask(*calls, journey(0, 2, 0, 5), journey(0, 2, 0, 6))
        self.assertEqual(told[6:], [[2, -1, 0, 0, 1, 20, 1, 0, 0, 1, 30], [1, 0, 0, 0, 1, 30]])

    def test_a_walk_that_nothing_is_won_by(self):
        calls = [*stops(3), ride(0, 10, 1, 20), ride(1, 20, 2, 30), walk(2, 2, 0), walk(0, 0, 1), walk(1, 1, 0),
                 walk(0, 0, 0)]
        self.assertEqual(last_of(*calls, journey(0, 2, 0, 9)),
                         [4, -1, 1, 0, 0, 10, 0, 0, 0, 1, 20, -1, 2, 1, 1, 20, 1, 0, 0, 1, 30])
        self.assertEqual(last_of(*calls, journey(0, 2, 0, 10)),
                         [4, -1, 3, 0, 0, 10, 0, 0, 0, 1, 20, -1, 2, 1, 1, 20, 1, 0, 0, 1, 30])

    def test_one_that_ends_where_another_goes_on(self):
        calls = [*stops(2), ride(0, 10, 1, 20), walk(1, 1, 0), walk(0, 0, 240), ride(1, 20, 1, 20)]
        self.assertEqual(last_of(*calls, journey(0, 1, 0, 0)), [1, 0, 0, 0, 1, 20])
        self.assertEqual(last_of(*calls, journey(1, 1, 0, 20)), [0])
        self.assertEqual(last_of(*calls, walk(0, 0, 0), journey(0, 0, 0, 20)), [0])

    def test_on_a_walk_after_the_last_ride(self):
        calls = [*stops(3), ride(0, 10, 1, 20), walk(1, 2, 5), walk(1, 2, 5), trip(1, (0, 10, 10), (2, 25, 25))]
        self.assertEqual(last_of(*calls, journey(0, 2, 0, 0)), [2, 0, 0, 0, 1, 20, -1, 0, 1, 2, 25])

    def test_the_first_leg_counts_before_all_others(self):
        # By trip 0 one has to go on with trip 4, by trip 1 with trip 2 or 3.
        calls = [*stops(4), ride(0, 10, 1, 20), ride(0, 10, 2, 20), ride(2, 20, 3, 40), ride(2, 30, 3, 40),
                 ride(1, 20, 3, 40)]
        self.assertEqual(last_of(*calls, journey(0, 3, 0, 0)), [2, 0, 0, 0, 1, 20, 4, 0, 0, 1, 40])


class NoWayFromThere(unittest.TestCase):
    """Lesser legs that can't be gone on from in time are passed by."""

    def test_a_walk_to_where_nothing_goes(self):
        calls = [*stops(4), walk(0, 1, 0), walk(0, 2, 5), ride(0, 10, 3, 30), ride(2, 20, 3, 30), ride(1, 5, 3, 31)]
        self.assertEqual(last_of(*calls, journey(0, 3, 0, 0)), [2, -1, 1, 0, 2, 5, 1, 0, 0, 1, 30])

    def test_a_walk_to_a_walk(self):
        calls = [*stops(3), walk(0, 1, 0), walk(1, 2, 5), ride(0, 3, 2, 9)]
        self.assertEqual(last_of(*calls, journey(0, 2, 0, 0)), [1, 0, 0, 0, 1, 9])

    def test_a_trip_to_where_one_more_ride_is_needed(self):
        calls = [*stops(4), ride(0, 10, 1, 11), ride(1, 12, 2, 13), ride(0, 10, 2, 20), ride(2, 20, 3, 30)]
        self.assertEqual(last_of(*calls, journey(0, 3, 0, 0)), [2, 2, 0, 0, 1, 20, 3, 0, 0, 1, 30])

    def test_a_trip_that_misses_the_next(self):
        calls = [*stops(3, 5), ride(0, 10, 1, 16), ride(0, 10, 1, 15), ride(1, 20, 2, 30), ride(1, 21, 2, 31)]
        self.assertEqual(last_of(*calls, journey(0, 2, 0, 0)), [2, 1, 0, 0, 1, 15, 2, 0, 0, 1, 30])

    def test_a_trip_that_misses_the_next_but_for_a_walk(self):
        calls = [*stops(3, 5), ride(0, 10, 1, 16), ride(0, 10, 1, 15), ride(1, 20, 2, 30), walk(1, 1, 4)]
        self.assertEqual(last_of(*calls, journey(0, 2, 0, 0)),
                         [3, 0, 0, 0, 1, 16, -1, 0, 1, 1, 20, 2, 0, 0, 1, 30])

    def test_a_trip_the_wrong_way(self):
        calls = [*stops(3), trip(EVERY_DAY, (2, 5, 5), (0, 10, 10), (1, 20, 20)), ride(0, 10, 2, 30)]
        self.assertEqual(last_of(*calls, journey(0, 2, 0, 0)), [1, 1, 0, 0, 1, 30])

    def test_a_call_ahead_of_the_goal_alone(self):
        # At its call 0 the trip may be boarded, at its call 2 no more: the goal lies between them.
        calls = [*stops(3), trip(1, (0, 10, 10), (2, 20, 20), (0, 30, 30), (1, 40, 40)), ride(0, 35, 2, 45, days=1)]
        told = ask(*calls, journey(0, 2, 0, 10), journey(0, 2, 0, 11))
        self.assertEqual(told[5:], [[1, 0, 0, 0, 1, 20], [1, 1, 0, 0, 1, 45]])


class Most(unittest.TestCase):
    def test_just_enough_and_one_too_few(self):
        calls = [*stops(3), ride(0, 10, 1, 20), walk(1, 2, 5)]
        told = ask(*calls, journey(0, 2, 0, 0, 2), journey(0, 2, 0, 0, 1), journey(0, 2, 0, 0, 0))
        self.assertEqual(told[5:], [[2, 0, 0, 0, 1, 20, -1, 0, 1, 2, 25], [-3], [-3]])

    def test_0(self):
        told = ask(*stops(2), walk(0, 1, 5), journey(0, 0, 0, 0, 0), journey(0, 1, 0, 0, 0))
        self.assertEqual(told[3:], [[0], [-3]])

    def test_the_first_counts_not_the_shortest(self):
        calls = [*stops(2), ride(0, 10, 1, 20), walk(0, 0, 1)]
        told = ask(*calls, journey(0, 1, 0, 9, 1), journey(0, 1, 0, 10, 1))
        self.assertEqual(told[4:], [[-3], [1, 0, 0, 0, 1, 20]])


class Refused(unittest.TestCase):
    def test_no_way(self):
        calls = [*stops(2), ride(1, 10, 0, 20), ride(0, 10, 1, 20, days=8)]
        told = ask(*calls, journey(0, 1, 0, 0), journey(0, 1, 3, 11), journey(0, 1, 3, 10))
        self.assertEqual(told[4:], [[-1], [-1], [1, 1, 0, 0, 1, 20]])

    def test_no_way_comes_before_most(self):
        self.assertEqual(last_of(*stops(2), journey(0, 1, 0, 0, 0)), [-1])

    def test_out_of_range(self):
        wrong = [journey(2, 0, 0, 0), journey(0, 2, 0, 0), journey(-1, 0, 0, 0), journey(0, -1, 0, 0),
                 journey(0, 0, 7, 0), journey(0, 0, -1, 0), journey(0, 0, 0, 2880), journey(0, 0, 0, -1),
                 journey(0, 0, 0, 0, 4097), journey(0, 0, 0, 0, -1), journey(GREATEST, 0, 0, 0),
                 journey(0, LEAST, 0, 0), journey(0, 0, GREATEST, 0), journey(0, 0, 0, LEAST),
                 journey(0, 0, 0, 0, LEAST), journey(0, 0, 0, 0, GREATEST)]
        self.assertEqual(ask(*stops(2), *wrong)[2:], [[-2]] * len(wrong))
        self.assertEqual(ask(journey(0, 0, 0, 0)), [[-2]])

    def test_the_range_comes_before_no_way_and_most(self):
        wrong = [journey(0, 1, 7, 0, 0), journey(0, 1, 0, 2880, 0), journey(0, 1, 0, 0, 4097), journey(0, 1, 0, 0, -1)]
        self.assertEqual(ask(*stops(2), *wrong)[2:], [[-2]] * 4)
        self.assertEqual(last_of(*stops(2), walk(0, 1, 5), journey(0, 1, 7, 0, 0)), [-2])


if __name__ == "__main__":
    unittest.main()
