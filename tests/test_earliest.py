"""Points 5 and 6: journeys, and the earliest arrival with the fewest rides."""

import unittest

from lines import GREATEST, LEAST, ask, earliest, last_of, ride, stop, trip, walk


class Ride(unittest.TestCase):
    def test_one(self):
        self.assertEqual(last_of(stop(), stop(), ride(0, 600, 1, 630), earliest(0, 1, 0, 590)), [0, 630, 1])

    def test_goes_no_sooner_than_one_is_there(self):
        told = ask(stop(120), stop(), ride(0, 600, 1, 630), earliest(0, 1, 0, 600), earliest(0, 1, 0, 601))
        self.assertEqual(told[3:], [[0, 630, 1], [0, 2070, 1]])

    def test_on_when_it_goes_off_when_it_comes(self):
        rows = trip(1, (0, 500, 600), (1, 630, 700))
        told = ask(stop(), stop(), rows, earliest(0, 1, 0, 600), earliest(0, 1, 0, 601))
        self.assertEqual(told[3:], [[0, 630, 1], [-1]])

    def test_not_off_where_one_got_on(self):
        rows = trip(1, (0, 500, 600), (1, 630, 700))
        told = ask(stop(), stop(), stop(), rows, walk(0, 2, 50), earliest(0, 0, 0, 590), earliest(0, 2, 0, 590))
        self.assertEqual(told[5:], [[0, 590, 0], [0, 640, 0]])

    def test_not_back_along_a_trip(self):
        self.assertEqual(last_of(stop(), stop(), ride(0, 600, 1, 630), earliest(1, 0, 0, 0)), [-1])

    def test_the_last_call_takes_nobody_on(self):
        rows = trip(1, (0, 600, 600), (1, 630, 640))
        more = trip(1, (1, 700, 700), (0, 710, 710))
        self.assertEqual(last_of(stop(), stop(), rows, more, earliest(1, 0, 0, 635)), [0, 710, 1])

    def test_between_calls_in_the_middle(self):
        rows = trip(1, (0, 10, 10), (1, 20, 21), (2, 30, 31), (3, 40, 40))
        self.assertEqual(last_of(stop(), stop(), stop(), stop(), rows, earliest(1, 2, 0, 21)), [0, 30, 1])

    def test_a_stop_that_a_trip_makes_twice(self):
        rows = trip(1, (0, 10, 10), (1, 20, 20), (0, 30, 30), (2, 40, 40), (1, 50, 50))
        told = ask(stop(), stop(), stop(), rows, earliest(0, 1, 0, 10), earliest(0, 1, 0, 11),
                   earliest(1, 2, 0, 0), earliest(0, 2, 0, 30))
        self.assertEqual(told[4:], [[0, 20, 1], [0, 50, 1], [0, 40, 1], [0, 40, 1]])

    def test_a_trip_boarded_ahead_of_where_it_was_boarded_first(self):
        # The trip's call 2 is boarded by the first ride, its call 0 by the second only.
        rows = trip(1, (1, 20, 20), (2, 30, 30), (0, 40, 40), (3, 50, 50))
        told = ask(stop(), stop(), stop(), stop(), rows, ride(0, 5, 1, 20, days=1), earliest(0, 2, 0, 0),
                   earliest(0, 3, 0, 0))
        self.assertEqual(told[6:], [[0, 30, 2], [0, 50, 1]])

    def test_a_later_train_that_is_there_earlier(self):
        told = ask(stop(), stop(), ride(0, 600, 1, 700), ride(0, 610, 1, 650), earliest(0, 1, 0, 600))
        self.assertEqual(told[4], [0, 650, 1])


class Change(unittest.TestCase):
    def change_at(self, change, goes):
        return last_of(stop(60), stop(change), stop(60), ride(0, 100, 1, 200, days=1),
                       ride(1, goes, 2, 300, days=1), earliest(0, 2, 0, 100))

    def test_after_a_ride(self):
        self.assertEqual(self.change_at(10, 210), [0, 300, 2])
        self.assertEqual(self.change_at(10, 209), [-1])
        self.assertEqual(self.change_at(0, 200), [0, 300, 2])
        self.assertEqual(self.change_at(0, 199), [-1])
        self.assertEqual(self.change_at(90, 290), [0, 300, 2])

    def test_none_at_the_start(self):
        self.assertEqual(last_of(stop(120), stop(), ride(0, 100, 1, 200, days=1), earliest(0, 1, 0, 100)),
                         [0, 200, 1])

    def test_none_at_the_end(self):
        self.assertEqual(last_of(stop(), stop(120), ride(0, 100, 1, 200, days=1), earliest(0, 1, 0, 100)),
                         [0, 200, 1])

    def test_none_before_or_after_a_walk(self):
        told = ask(stop(120), stop(120), stop(120), stop(120), ride(0, 100, 1, 200, days=1), walk(1, 2, 7),
                   ride(2, 207, 3, 300, days=1), earliest(0, 3, 0, 100), earliest(0, 2, 0, 100))
        self.assertEqual(told[7:], [[0, 300, 2], [0, 207, 1]])

    def test_a_walk_that_is_over_too_late(self):
        self.assertEqual(last_of(stop(), stop(), stop(), stop(), ride(0, 100, 1, 200, days=1), walk(1, 2, 8),
                                 ride(2, 207, 3, 300, days=1), earliest(0, 3, 0, 100)), [-1])

    def test_a_walk_back_to_the_stop_in_the_place_of_its_change(self):
        told = ask(stop(), stop(20), stop(), ride(0, 100, 1, 200, days=1), ride(1, 205, 2, 300, days=1),
                   earliest(0, 2, 0, 100), walk(1, 1, 5), earliest(0, 2, 0, 100))
        self.assertEqual((told[5], told[7]), ([-1], [0, 300, 2]))

    def test_to_the_trip_that_one_has_got_off(self):
        # Only the trip of the first ride goes on from 1 to 2: staying on is one ride.
        rows = trip(1, (0, 100, 100), (1, 200, 205), (2, 300, 300))
        self.assertEqual(last_of(stop(), stop(10), stop(), rows, earliest(0, 2, 0, 100)), [0, 300, 1])

    def test_earlier_by_a_walk_though_a_ride_comes_sooner(self):
        # By ride one is at 2 at 150, but may board from 180 on; by walk at 160, and may at once.
        told = ask(stop(), stop(), stop(30), stop(), trip(1, (0, 100, 100), (1, 140, 140), (2, 150, 150)),
                   walk(1, 2, 20), ride(2, 165, 3, 170, days=1), earliest(0, 2, 0, 100), earliest(0, 3, 0, 100))
        self.assertEqual(told[7:], [[0, 150, 1], [0, 170, 2]])


class Walk(unittest.TestCase):
    def test_at_once_from_the_start(self):
        self.assertEqual(last_of(stop(120), stop(120), walk(0, 1, 9), earliest(0, 1, 0, 100)), [0, 109, 0])

    def test_not_two_one_after_another(self):
        told = ask(stop(), stop(), stop(), walk(0, 1, 5), walk(1, 2, 5), earliest(0, 1, 0, 0), earliest(0, 2, 0, 0))
        self.assertEqual(told[5:], [[0, 5, 0], [-1]])

    def test_not_two_after_a_ride(self):
        told = ask(stop(), stop(), stop(), stop(), ride(0, 10, 1, 20), walk(1, 2, 5), walk(2, 3, 5),
                   earliest(0, 2, 0, 0), earliest(0, 3, 0, 0))
        self.assertEqual(told[7:], [[0, 25, 1], [-1]])

    def test_again_after_a_ride(self):
        told = ask(stop(), stop(), stop(), stop(), walk(0, 1, 5), ride(1, 10, 2, 20), walk(2, 3, 5),
                   earliest(0, 3, 0, 5), earliest(0, 3, 0, 6))
        self.assertEqual(told[7:], [[0, 25, 1], [0, 1465, 1]])

    def test_on_from_a_ride_that_comes_later_than_a_walk(self):
        # At 1 one is at 5 by a walk; to walk on, one has to have come by the ride, at 20.
        told = ask(stop(), stop(), stop(), walk(0, 1, 5), walk(1, 2, 5), ride(0, 10, 1, 20), earliest(0, 1, 0, 0),
                   earliest(0, 2, 0, 0))
        self.assertEqual(told[6:], [[0, 5, 0], [0, 25, 1]])

    def test_the_shorter_of_two(self):
        self.assertEqual(last_of(stop(), stop(), walk(0, 1, 9), walk(0, 1, 4), walk(0, 1, 6), earliest(0, 1, 0, 0)),
                         [0, 4, 0])

    def test_of_no_minutes(self):
        self.assertEqual(last_of(stop(), stop(), walk(0, 1, 0), earliest(0, 1, 0, 2879)), [0, 2879, 0])


class Days(unittest.TestCase):
    night = trip(8, (0, 1430, 1430), (1, 1450, 1450), (2, 1470, 1470))

    def test_the_day_before(self):
        told = ask(stop(), stop(), stop(), self.night, earliest(1, 2, 4, 10), earliest(1, 2, 4, 11))
        self.assertEqual(told[4:], [[0, 30, 1], [-1]])

    def test_the_day_after(self):
        told = ask(stop(), stop(), stop(), self.night, earliest(0, 2, 2, 2870), earliest(0, 2, 2, 2871))
        self.assertEqual(told[4:], [[0, 2910, 1], [-1]])

    def test_no_other_days(self):
        told = ask(stop(), stop(), stop(), self.night, *[earliest(0, 2, day, 0) for day in range(7)])
        self.assertEqual(told[4:], [[-1], [-1], [0, 2910, 1], [0, 1470, 1], [-1], [-1], [-1]])

    def test_sunday_and_monday_stand_beside_one_another(self):
        first = trip(1, (0, 1430, 1430), (1, 1450, 1450))
        last = trip(64, (0, 1430, 1430), (1, 1450, 1450))
        self.assertEqual(last_of(stop(), stop(), first, earliest(0, 1, 6, 0)), [0, 2890, 1])
        self.assertEqual(last_of(stop(), stop(), trip(64, (0, 1440, 1440), (1, 1445, 1445)), earliest(0, 1, 0, 0)),
                         [0, 5, 1])
        self.assertEqual(last_of(stop(), stop(), last, earliest(0, 1, 0, 0)), [-1])

    def test_from_one_day_to_the_other(self):
        told = ask(stop(), stop(5), stop(), trip(1, (0, 1430, 1430), (1, 1445, 1445)), ride(1, 10, 2, 20, days=2),
                   earliest(0, 2, 0, 1400), earliest(0, 2, 1, 0))
        self.assertEqual(told[5:], [[0, 1460, 2], [-1]])

    def test_the_last_minutes_of_a_trip(self):
        rows = trip(1, (0, 2879, 2879), (1, 2879, 2879))
        told = ask(stop(), stop(), rows, earliest(0, 1, 0, 2879), earliest(0, 1, 1, 1439), earliest(0, 1, 1, 1440),
                   earliest(0, 1, 6, 2879))
        self.assertEqual(told[3:], [[0, 2879, 1], [0, 1439, 1], [-1], [0, 4319, 1]])


class FewestRides(unittest.TestCase):
    def test_of_those_that_are_there_then(self):
        told = ask(stop(), stop(), stop(), ride(0, 10, 1, 20), ride(1, 20, 2, 30), ride(0, 5, 2, 30),
                   earliest(0, 2, 0, 0), earliest(0, 2, 0, 6))
        self.assertEqual(told[6:], [[0, 30, 1], [0, 30, 2]])

    def test_more_where_that_is_earlier(self):
        told = ask(stop(), stop(), stop(), ride(0, 10, 1, 20), ride(1, 20, 2, 30), ride(0, 5, 2, 31),
                   earliest(0, 2, 0, 0))
        self.assertEqual(told[6], [0, 30, 2])

    def test_fewer_by_being_later_on_the_way(self):
        # Two rides to 2 are there at 20, one at 25: both catch what goes at 40.
        told = ask(stop(), stop(), stop(), stop(), ride(0, 5, 1, 10), ride(1, 10, 2, 20), ride(0, 5, 2, 25),
                   ride(2, 40, 3, 50), earliest(0, 2, 0, 0), earliest(0, 3, 0, 0))
        self.assertEqual(told[8:], [[0, 20, 2], [0, 50, 2]])

    def test_a_walk_is_none(self):
        told = ask(stop(), stop(), ride(0, 10, 1, 20), walk(0, 1, 20), earliest(0, 1, 0, 0), earliest(0, 1, 0, 1))
        self.assertEqual(told[4:], [[0, 20, 0], [0, 20, 1]])

    def test_in_one_minute(self):
        told = ask(stop(), stop(), stop(), ride(1, 10, 2, 10), ride(0, 10, 1, 10), earliest(0, 2, 0, 10))
        self.assertEqual(told[5], [0, 10, 2])

    def test_a_hundred(self):
        stops = [stop(0)] * 101
        rides = [ride(at, 10, at + 1, 10) for at in range(100)]
        self.assertEqual(last_of(*stops, *rides, earliest(0, 100, 0, 10)), [0, 10, 100])


class Asked(unittest.TestCase):
    def test_where_one_is(self):
        told = ask(stop(120), earliest(0, 0, 0, 0), earliest(0, 0, 6, 2879), walk(0, 0, 0), earliest(0, 0, 3, 7))
        self.assertEqual([told[1], told[2], told[4]], [[0, 0, 0], [0, 2879, 0], [0, 7, 0]])

    def test_no_way(self):
        self.assertEqual(ask(stop(), stop(), earliest(0, 1, 0, 0))[2], [-1])

    def test_out_of_range(self):
        wrong = [earliest(2, 0, 0, 0), earliest(0, 2, 0, 0), earliest(-1, 0, 0, 0), earliest(0, -1, 0, 0),
                 earliest(0, 0, 7, 0), earliest(0, 0, -1, 0), earliest(0, 0, 0, 2880), earliest(0, 0, 0, -1),
                 earliest(GREATEST, 0, 0, 0), earliest(0, LEAST, 0, 0), earliest(0, 0, GREATEST, 0),
                 earliest(0, 0, 0, LEAST)]
        self.assertEqual(ask(stop(), stop(), *wrong)[2:], [[-2]] * len(wrong))
        self.assertEqual(ask(earliest(0, 0, 0, 0)), [[-2]])

    def test_the_range_comes_before_no_way(self):
        self.assertEqual(ask(stop(), stop(), earliest(0, 1, 7, 0), earliest(0, 1, 0, 2880))[2:], [[-2], [-2]])

    def test_what_is_told_later_counts_later(self):
        told = ask(stop(), stop(), earliest(0, 1, 0, 0), ride(0, 10, 1, 20), earliest(0, 1, 0, 0),
                   walk(0, 1, 15), earliest(0, 1, 0, 0), stop(), earliest(0, 2, 0, 0))
        self.assertEqual(told[2::2], [[-1], [0, 20, 1], [0, 15, 0], [-1]])


if __name__ == "__main__":
    unittest.main()
