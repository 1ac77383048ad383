"""Point 12: what goes from a stop."""

import unittest

from lines import EVERY_DAY, GREATEST, LEAST, ask, board, last_of, late, ride, stop, trip, walk


class Rows(unittest.TestCase):
    def test_when_trip_day_and_last_stop(self):
        calls = [stop(), stop(), stop(), trip(1, (0, 90, 100), (1, 110, 112), (2, 120, 125))]
        told = ask(*calls, board(0, 0, 0), board(1, 0, 0))
        self.assertEqual(told[4:], [[1, 100, 0, 0, 2], [1, 112, 0, 0, 2]])

    def test_a_trips_last_call_is_left_out(self):
        calls = [stop(), stop(), trip(1, (0, 90, 100), (1, 110, 112))]
        self.assertEqual(last_of(*calls, board(1, 0, 0)), [0])

    def test_a_trip_that_ends_where_it_goes_from(self):
        calls = [stop(), stop(), trip(1, (0, 10, 10), (1, 20, 20), (0, 30, 30))]
        self.assertEqual(last_of(*calls, board(0, 0, 0)), [1, 10, 0, 0, 0])

    def test_at_t_or_later(self):
        calls = [stop(120), stop(), ride(0, 100, 1, 110, days=1), ride(0, 101, 1, 105, days=1)]
        told = ask(*calls, board(0, 0, 100), board(0, 0, 101), board(0, 0, 102))
        self.assertEqual(told[4:], [[2, 100, 0, 0, 1, 101, 1, 0, 1], [1, 101, 1, 0, 1], [0]])

    def test_by_when_it_goes_not_when_it_comes(self):
        calls = [stop(), stop(), trip(1, (0, 90, 100), (1, 110, 110)), trip(1, (0, 95, 99), (1, 110, 110))]
        self.assertEqual(last_of(*calls, board(0, 0, 98)), [2, 99, 1, 0, 1, 100, 0, 0, 1])

    def test_nothing_goes(self):
        self.assertEqual(last_of(stop(), stop(), walk(0, 1, 5), board(0, 0, 0)), [0])

    def test_no_other_stops(self):
        calls = [stop(), stop(), ride(0, 100, 1, 110, days=1), ride(1, 100, 0, 110, days=1)]
        self.assertEqual(last_of(*calls, board(1, 0, 0)), [1, 100, 1, 0, 0])

    def test_the_ends_of_the_minutes(self):
        calls = [stop(), stop(), ride(0, 0, 1, 5, days=1), ride(0, 2879, 1, 2879, days=1)]
        told = ask(*calls, board(0, 0, 0), board(0, 0, 2879))
        self.assertEqual(told[4:], [[2, 0, 0, 0, 1, 2879, 1, 0, 1], [1, 2879, 1, 0, 1]])


class Order(unittest.TestCase):
    def test_the_same_minute(self):
        calls = [stop(), stop(), stop(), ride(0, 100, 2, 110, days=1), ride(0, 100, 1, 103, days=1),
                 ride(0, 99, 1, 120, days=1)]
        self.assertEqual(last_of(*calls, board(0, 0, 0)), [3, 99, 2, 0, 1, 100, 0, 0, 2, 100, 1, 0, 1])

    def test_the_same_minute_and_trip_on_two_days(self):
        calls = [stop(), stop(), trip(EVERY_DAY, (0, 10, 10), (0, 1450, 1450), (1, 1460, 1460))]
        self.assertEqual(last_of(*calls, board(0, 0, 0)),
                         [5, 10, 0, -1, 1, 10, 0, 0, 1, 1450, 0, 0, 1, 1450, 0, 1, 1, 2890, 0, 1, 1])

    def test_the_trip_comes_before_the_day(self):
        calls = [stop(), stop(), ride(0, 10, 1, 20, days=1), ride(0, 1450, 1, 1460, days=64)]
        self.assertEqual(last_of(*calls, board(0, 0, 0)), [2, 10, 0, 0, 1, 10, 1, -1, 1])

    def test_equal_rows(self):
        calls = [stop(), stop(), trip(1, (0, 10, 10), (0, 10, 10), (1, 10, 10), (0, 10, 10), (1, 20, 20))]
        told = ask(*calls, board(0, 0, 0), board(0, 0, 0, 2), board(1, 0, 10))
        self.assertEqual(told[3:], [[3] + [10, 0, 0, 1] * 3, [2] + [10, 0, 0, 1] * 2, [1, 10, 0, 0, 1]])

    def test_many_trips_told_in_another_order(self):
        minutes = [(37 * number) % 50 for number in range(100)]
        calls = [stop(), stop()] + [ride(0, minute, 1, 60, days=1) for minute in minutes]
        rows = sorted((minute, number, 0, 1) for number, minute in enumerate(minutes))
        self.assertEqual(last_of(*calls, board(0, 0, 0)), [100] + [part for row in rows for part in row])


class Days(unittest.TestCase):
    def test_the_day_before_the_day_and_the_day_after(self):
        calls = [stop(), stop(), ride(0, 1500, 1, 1510)]
        told = ask(*calls, board(0, 0, 0), board(0, 3, 61), board(0, 6, 1501))
        self.assertEqual(told[3:], [
            [3, 60, 0, -1, 1, 1500, 0, 0, 1, 2940, 0, 1, 1], [2, 1500, 0, 0, 1, 2940, 0, 1, 1], [1, 2940, 0, 1, 1],
        ])

    def test_by_their_own_days_of_the_week(self):
        calls = [stop(), stop(), ride(0, 1500, 1, 1510, days=1)]
        told = ask(*calls, *[board(0, day, 0) for day in range(7)])
        self.assertEqual(told[3:], [[1, 1500, 0, 0, 1], [1, 60, 0, -1, 1], [0], [0], [0], [0], [1, 2940, 0, 1, 1]])

    def test_by_their_own_lateness(self):
        calls = [stop(), stop(), ride(0, 1500, 1, 1510), late(0, 6, 0, 1), late(0, 0, 0, 2), late(0, 1, 0, 240)]
        self.assertEqual(last_of(*calls, board(0, 0, 0)), [3, 61, 0, -1, 1, 1502, 0, 0, 1, 3180, 0, 1, 1])

    def test_late_from_a_call_on(self):
        calls = [stop(), stop(), stop(), trip(1, (0, 9, 10), (1, 20, 21), (2, 30, 30))]
        told = ask(*calls, late(0, 0, 1, 7), board(0, 0, 0), board(1, 0, 28), board(1, 0, 29))
        self.assertEqual(told[5:], [[1, 10, 0, 0, 2], [1, 28, 0, 0, 2], [0]])

    def test_late_past_another(self):
        calls = [stop(), stop(), ride(0, 10, 1, 20, days=1), ride(0, 15, 1, 20, days=1)]
        told = ask(*calls, board(0, 0, 0), late(0, 0, 0, 6), board(0, 0, 0))
        self.assertEqual(told[4::2], [[2, 10, 0, 0, 1, 15, 1, 0, 1], [2, 15, 1, 0, 1, 16, 0, 0, 1]])

    def test_the_last_minute_of_all(self):
        calls = [stop(), stop(), ride(0, 2879, 1, 2879, days=1), late(0, 0, 0, 240)]
        self.assertEqual(last_of(*calls, board(0, 6, 2879)), [1, 4559, 0, 1, 1])


class Most(unittest.TestCase):
    def test_as_many_rows_as_most(self):
        calls = [stop(), stop()] + [ride(0, minute, 1, 60, days=1) for minute in (30, 10, 20)]
        told = ask(*calls, *[board(0, 0, 0, most) for most in (0, 1, 2, 3, 4, 4096)])
        rows = [10, 1, 0, 1, 20, 2, 0, 1, 30, 0, 0, 1]
        self.assertEqual(told[5:], [[0], [1] + rows[:4], [2] + rows[:8], [3] + rows, [3] + rows, [3] + rows])

    def test_the_first_from_t_on(self):
        calls = [stop(), stop()] + [ride(0, minute, 1, 60, days=1) for minute in (30, 10, 20)]
        self.assertEqual(last_of(*calls, board(0, 0, 11, 1)), [1, 20, 2, 0, 1])

    def test_4096_of_more(self):
        calls = [stop(), stop()]
        for number in range(30):
            calls.append(trip(EVERY_DAY, *[(0, number, number)] * 63, (1, 1439, 1439)))
        told = last_of(*calls, board(0, 0, 0, 4096))
        self.assertEqual((told[0], len(told)), (63 * 30 * 2, 1 + 4 * 63 * 30 * 2))
        calls += [trip(EVERY_DAY, *[(0, number, number)] * 63, (1, 1439, 1439)) for number in range(30)]
        told = last_of(*calls, board(0, 0, 0, 4096))
        self.assertEqual((told[0], len(told)), (4096, 1 + 4 * 4096))
        self.assertEqual(told[-4:], [1440 + (4095 - 3780) // 126, 32, 1, 1])


class Refused(unittest.TestCase):
    def test_out_of_range(self):
        wrong = [board(2, 0, 0), board(-1, 0, 0), board(0, 7, 0), board(0, -1, 0), board(0, 0, 2880),
                 board(0, 0, -1), board(0, 0, 0, 4097), board(0, 0, 0, -1), board(GREATEST, 0, 0),
                 board(0, LEAST, 0), board(0, 0, GREATEST), board(0, 0, 0, LEAST), board(0, 0, 0, GREATEST)]
        self.assertEqual(ask(stop(), stop(), *wrong)[2:], [[-2]] * len(wrong))
        self.assertEqual(ask(board(0, 0, 0)), [[-2]])


if __name__ == "__main__":
    unittest.main()
