"""Point 7: the latest departure with the fewest rides."""

import unittest

from lines import GREATEST, LEAST, ask, last_of, late, latest, ride, stop, trip, walk


class Ride(unittest.TestCase):
    def test_there_at_t_or_before(self):
        told = ask(stop(120), stop(120), ride(0, 600, 1, 630, days=1), latest(0, 1, 0, 630), latest(0, 1, 0, 629),
                   latest(0, 1, 0, 2000))
        self.assertEqual(told[3:], [[0, 600, 1], [-1], [0, 600, 1]])

    def test_on_when_it_goes_off_when_it_comes(self):
        told = ask(stop(), stop(), trip(1, (0, 500, 600), (1, 630, 700)), latest(0, 1, 0, 630))
        self.assertEqual(told[3], [0, 600, 1])

    def test_the_first_call_lets_nobody_off(self):
        told = ask(stop(), stop(), trip(1, (0, 500, 600), (1, 630, 700)), latest(1, 0, 0, 2879))
        self.assertEqual(told[3], [-1])

    def test_the_later_of_two_trains(self):
        told = ask(stop(), stop(), ride(0, 610, 1, 640), ride(0, 600, 1, 650), latest(0, 1, 0, 650),
                   latest(0, 1, 0, 2089))
        self.assertEqual(told[4:], [[0, 610, 1], [0, 2050, 1]])

    def test_a_stop_that_a_trip_makes_twice(self):
        rows = trip(1, (0, 10, 10), (1, 20, 20), (0, 30, 30), (2, 40, 40), (1, 50, 50))
        told = ask(stop(), stop(), stop(), rows, latest(0, 1, 0, 49), latest(0, 1, 0, 50), latest(0, 2, 0, 45))
        self.assertEqual(told[4:], [[0, 10, 1], [0, 30, 1], [0, 30, 1]])

    def test_late(self):
        told = ask(stop(), stop(), ride(0, 600, 1, 630, days=1), late(0, 0, 0, 5), latest(0, 1, 0, 634),
                   latest(0, 1, 0, 635))
        self.assertEqual(told[4:], [[-1], [0, 605, 1]])


class ChangeAndWalk(unittest.TestCase):
    def test_a_change_after_a_ride(self):
        def change_at(change):
            return last_of(stop(60), stop(change), stop(60), ride(0, 100, 1, 200, days=1),
                           ride(0, 90, 1, 150, days=1), ride(1, 210, 2, 300, days=1), latest(0, 2, 0, 300))
        self.assertEqual(change_at(10), [0, 100, 2])
        self.assertEqual(change_at(11), [0, 90, 2])
        self.assertEqual(change_at(60), [0, 90, 2])
        self.assertEqual(change_at(61), [-1])

    def test_none_after_a_walk(self):
        told = ask(stop(120), stop(120), stop(120), stop(120), ride(0, 100, 1, 200, days=1), walk(1, 2, 7),
                   ride(2, 207, 3, 300, days=1), latest(0, 3, 0, 300))
        self.assertEqual(told[7], [0, 100, 2])

    def test_a_walk_that_is_over_too_late(self):
        told = ask(stop(), stop(), stop(), stop(), ride(0, 100, 1, 200, days=1), walk(1, 2, 8),
                   ride(2, 207, 3, 300, days=1), latest(0, 3, 0, 300))
        self.assertEqual(told[7], [-1])

    def test_a_walk_first_and_a_walk_last(self):
        told = ask(stop(), stop(), stop(), stop(), walk(0, 1, 5), ride(1, 10, 2, 20, days=1), walk(2, 3, 6),
                   latest(0, 3, 0, 26), latest(0, 3, 0, 25))
        self.assertEqual(told[7:], [[0, 5, 1], [-1]])

    def test_not_two_walks_one_after_another(self):
        told = ask(stop(), stop(), stop(), walk(0, 1, 5), walk(1, 2, 5), latest(0, 2, 0, 100), latest(1, 2, 0, 100))
        self.assertEqual(told[5:], [[-1], [0, 95, 0]])

    def test_one_way(self):
        self.assertEqual(last_of(stop(), stop(), walk(0, 1, 5), latest(1, 0, 0, 100)), [-1])

    def test_a_walk_back_to_the_stop_in_the_place_of_its_change(self):
        told = ask(stop(), stop(20), stop(), ride(0, 100, 1, 200, days=1), ride(1, 205, 2, 300, days=1),
                   latest(0, 2, 0, 300), walk(1, 1, 5), latest(0, 2, 0, 300))
        self.assertEqual((told[5], told[7]), ([-1], [0, 100, 2]))


class BelowZero(unittest.TestCase):
    def test_a_walk(self):
        told = ask(stop(), stop(), walk(0, 1, 240), latest(0, 1, 0, 240), latest(0, 1, 0, 239), latest(0, 1, 0, 0))
        self.assertEqual(told[3:], [[0, 0, 0], [0, -1, 0], [0, -240, 0]])

    def test_a_trip_of_the_day_before(self):
        rows = trip(64, (0, 0, 0), (1, 1440, 1440), (2, 1450, 1450))
        told = ask(stop(), stop(), stop(), rows, latest(0, 1, 0, 0), latest(0, 2, 0, 9), latest(0, 2, 0, 10))
        self.assertEqual(told[4:], [[0, -1440, 1], [-1], [0, -1440, 1]])

    def test_as_early_as_can_be(self):
        told = ask(stop(), stop(), stop(), walk(0, 1, 240), ride(1, 0, 2, 1440, days=64), latest(0, 2, 0, 0))
        self.assertEqual(told[5], [0, -1680, 1])

    def test_no_trip_of_two_days_before(self):
        told = ask(stop(), stop(), ride(0, 2879, 1, 2879, days=32), late(0, 5, 0, 240), latest(0, 1, 0, 2879))
        self.assertEqual(told[4], [-1])

    def test_a_trip_of_the_day_after(self):
        told = ask(stop(), stop(), ride(0, 1430, 1, 1439, days=1), latest(0, 1, 6, 2879), latest(0, 1, 6, 2878))
        self.assertEqual(told[3:], [[0, 2870, 1], [-1]])


class FewestRides(unittest.TestCase):
    def test_of_those_from_then(self):
        told = ask(stop(), stop(), stop(), ride(0, 10, 1, 20), ride(1, 20, 2, 30), ride(0, 10, 2, 40),
                   latest(0, 2, 0, 39), latest(0, 2, 0, 40))
        self.assertEqual(told[6:], [[0, 10, 2], [0, 10, 1]])

    def test_more_where_that_is_later(self):
        told = ask(stop(), stop(), stop(), ride(0, 10, 1, 20), ride(1, 20, 2, 30), ride(0, 9, 2, 30),
                   latest(0, 2, 0, 30))
        self.assertEqual(told[6], [0, 10, 2])

    def test_a_walk_is_none(self):
        told = ask(stop(), stop(), ride(0, 10, 1, 20), walk(0, 1, 10), latest(0, 1, 0, 20))
        self.assertEqual(told[4], [0, 10, 0])

    def test_a_hundred(self):
        stops = [stop(0)] * 101
        rides = [ride(at, 10, at + 1, 10) for at in range(100)]
        self.assertEqual(last_of(*stops, *rides, latest(0, 100, 0, 10)), [0, 10, 100])


class Asked(unittest.TestCase):
    def test_where_one_is(self):
        told = ask(stop(120), latest(0, 0, 0, 0), latest(0, 0, 6, 2879))
        self.assertEqual(told[1:], [[0, 0, 0], [0, 2879, 0]])

    def test_no_way(self):
        self.assertEqual(ask(stop(), stop(), latest(0, 1, 0, 0))[2], [-1])

    def test_out_of_range(self):
        wrong = [latest(2, 0, 0, 0), latest(0, 2, 0, 0), latest(-1, 0, 0, 0), latest(0, -1, 0, 0),
                 latest(0, 0, 7, 0), latest(0, 0, -1, 0), latest(0, 0, 0, 2880), latest(0, 0, 0, -1),
                 latest(GREATEST, 0, 0, 0), latest(0, LEAST, 0, 0), latest(0, 0, GREATEST, 0), latest(0, 0, 0, LEAST)]
        self.assertEqual(ask(stop(), stop(), *wrong)[2:], [[-2]] * len(wrong))
        self.assertEqual(ask(latest(0, 0, 0, 0)), [[-2]])

    def test_the_range_comes_before_no_way(self):
        self.assertEqual(ask(stop(), stop(), latest(0, 1, 7, 0), latest(0, 1, 0, 2880))[2:], [[-2], [-2]])

    def test_what_is_told_later_counts_later(self):
        told = ask(stop(), stop(), latest(0, 1, 0, 100), ride(0, 10, 1, 20), latest(0, 1, 0, 100),
                   walk(0, 1, 15), latest(0, 1, 0, 100), stop(), latest(0, 2, 0, 100))
        self.assertEqual(told[2::2], [[-1], [0, 10, 1], [0, 85, 0], [-1]])


if __name__ == "__main__":
    unittest.main()
