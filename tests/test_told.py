"""Points 1 to 4: what is told, what is refused, and which refusal comes first."""

import unittest

from lines import EVERY_DAY, GREATEST, LEAST, ask, earliest, last_of, late, latest, stop, trip, walk
from timeways.plan import Plan

HALF_HOUR = trip(EVERY_DAY, (0, 600, 600), (1, 630, 630))


class Stop(unittest.TestCase):
    def test_numbers_from_0(self):
        self.assertEqual(ask(stop(5), stop(5), stop(0)), [[0], [1], [2]])

    def test_change_0_to_120(self):
        self.assertEqual(ask(stop(0), stop(120)), [[0], [1]])

    def test_change_out_of_range(self):
        calls = [stop(change) for change in (-1, 121, LEAST, GREATEST)]
        self.assertEqual(ask(*calls), [[-2]] * 4)

    def test_a_refused_stop_takes_no_number(self):
        self.assertEqual(ask(stop(121), stop(1), stop(-1), stop(2)), [[-2], [0], [-2], [1]])

    def test_256_and_no_more(self):
        told = ask(*[stop(1)] * 258)
        self.assertEqual(told, [[number] for number in range(256)] + [[-8], [-8]])

    def test_the_range_comes_before_the_fill(self):
        self.assertEqual(ask(*[stop(1)] * 256, stop(121), stop(120))[256:], [[-2], [-8]])

    def test_the_256th_can_be_gone_to(self):
        self.assertEqual(last_of(*[stop(1)] * 257, walk(0, 255, 3), earliest(0, 255, 0, 0)), [0, 3, 0])
        self.assertEqual(last_of(*[stop(1)] * 257, walk(0, 256, 3)), [-2])


class Walk(unittest.TestCase):
    def test_numbers_from_0_of_their_own(self):
        self.assertEqual(ask(stop(), stop(), walk(0, 1, 5), HALF_HOUR, walk(0, 1, 5))[2:], [[0], [0], [1]])

    def test_minutes_0_to_240(self):
        told = ask(stop(), stop(), *[walk(0, 1, minutes) for minutes in (0, 240, -1, 241, LEAST, GREATEST)])
        self.assertEqual(told[2:], [[0], [1], [-2], [-2], [-2], [-2]])

    def test_stops_that_there_are(self):
        told = ask(stop(), stop(), walk(2, 0, 5), walk(0, 2, 5), walk(-1, 0, 5), walk(0, -1, 5),
                   walk(LEAST, 0, 5), walk(0, GREATEST, 5), walk(1, 0, 5))
        self.assertEqual(told[2:], [[-2]] * 6 + [[0]])

    def test_no_stops_yet(self):
        self.assertEqual(ask(walk(0, 0, 5)), [[-2]])

    def test_from_a_stop_to_itself(self):
        self.assertEqual(ask(stop(), walk(0, 0, 5)), [[0], [0]])

    def test_one_way(self):
        told = ask(stop(), stop(), walk(0, 1, 240), earliest(0, 1, 0, 7), earliest(1, 0, 0, 7))
        self.assertEqual(told[3:], [[0, 247, 0], [-1]])

    def test_a_refused_walk_is_not_there(self):
        self.assertEqual(last_of(stop(), stop(), walk(0, 1, 241), earliest(0, 1, 0, 0)), [-1])

    def test_4096_and_no_more(self):
        # A line has no room for so many: the plan itself is asked.
        plan = Plan()
        plan.add_stop(0)
        for number in range(4096):
            self.assertEqual(plan.add_walk(0, 0, 240), number)
        self.assertEqual(plan.add_walk(0, 0, 240), -8)
        self.assertEqual(plan.add_walk(0, 0, 241), -2)
        self.assertEqual(len(plan.walks), 4096)


class Trip(unittest.TestCase):
    def refuse(self, expected, call):
        """The call is answered so, and the next trip still gets the number 0."""
        self.assertEqual(ask(stop(), stop(), call, HALF_HOUR)[2:], [[expected], [0]])

    def accept(self, call):
        self.assertEqual(ask(stop(), stop(), HALF_HOUR, call)[2:], [[0], [1]])

    def test_days_1_to_127(self):
        self.accept(trip(1, (0, 0, 0), (1, 5, 5)))
        self.accept(trip(127, (0, 0, 0), (1, 5, 5)))

    def test_days_out_of_range(self):
        for days in (0, 128, -1, LEAST, GREATEST):
            self.refuse(-2, trip(days))

    def test_no_calls(self):
        self.refuse(-2, trip(1))
        self.refuse(-2, trip(127))

    def test_2_to_64_calls(self):
        self.accept(trip(1, *[(0, minute, minute) for minute in range(2)]))
        self.accept(trip(1, *[(0, minute, minute) for minute in range(64)]))

    def test_a_call_at_no_stop(self):
        self.refuse(-4, trip(1, (2, 0, 0), (1, 5, 5)))
        self.refuse(-4, trip(1, (0, 0, 0), (2, 5, 5)))
        self.refuse(-4, trip(1, (0, 0, 0), (65535, 5, 5), (1, 5, 5)))

    def test_it_goes_before_it_has_come(self):
        self.refuse(-4, trip(1, (0, 3, 2), (1, 5, 5)))
        self.refuse(-4, trip(1, (0, 0, 0), (0, 3, 2), (1, 5, 5)))
        self.refuse(-4, trip(1, (0, 0, 0), (1, 5, 4)))

    def test_it_comes_before_it_has_gone(self):
        self.refuse(-4, trip(1, (0, 0, 6), (1, 5, 9)))
        self.refuse(-4, trip(1, (0, 0, 0), (1, 2, 6), (0, 5, 9)))

    def test_all_in_one_minute(self):
        self.accept(trip(1, (0, 0, 0), (1, 0, 0), (0, 0, 0)))

    def test_it_goes_at_2880_or_later(self):
        self.accept(trip(1, (0, 2879, 2879), (1, 2879, 2879)))
        self.refuse(-4, trip(1, (0, 0, 0), (1, 2879, 2880)))
        self.refuse(-4, trip(1, (0, 0, 0), (1, 2880, 2880)))
        self.refuse(-4, trip(1, (0, 0, 2880), (1, 2880, 2880)))
        self.refuse(-4, trip(1, (0, 65535, 65535), (1, 65535, 65535)))

    def test_a_refused_trip_is_not_there(self):
        broken = trip(EVERY_DAY, (0, 600, 600), (1, 605, 605), (1, 604, 604))
        self.assertEqual(last_of(stop(), stop(), broken, earliest(0, 1, 0, 600)), [-1])

    def test_1024_and_no_more(self):
        # A line has no room for so many: the plan itself is asked.
        plan = Plan()
        plan.add_stop(0)
        rows = [0, 0, 0, 0, 5, 5]
        for number in range(1024):
            self.assertEqual(plan.add_trip(1, rows), number)
        self.assertEqual(plan.add_trip(1, rows), -8)
        self.assertEqual(plan.add_trip(1, [1, 0, 0, 0, 5, 5]), -4)
        self.assertEqual(plan.add_trip(0, []), -2)
        self.assertEqual(plan.add_trip(1, []), -2)
        self.assertEqual(len(plan.trips), 1024)

    def test_runs_on_its_days_alone(self):
        for runs in range(7):
            told = ask(stop(), stop(), trip(1 << runs, (0, 1400, 1400), (1, 1430, 1430)),
                       *[earliest(0, 1, day, 1300) for day in range(7)])
            for day in range(7):
                expected = [-1]
                if day == runs:
                    expected = [0, 1430, 1]
                if (day + 1) % 7 == runs:
                    expected = [0, 2870, 1]
                self.assertEqual(told[3 + day], expected)


class Late(unittest.TestCase):
    rows = ((0, 600, 601), (1, 610, 612), (2, 620, 623), (3, 630, 634))

    def times(self, *lates, days=EVERY_DAY, day=2):
        """When the trip comes to each call but the first, as earliest answers, and its rides' latest departures."""
        told = ask(stop(), stop(), stop(), stop(), trip(days, *self.rows), *lates,
                   *[earliest(0, goal, day, 590) for goal in (1, 2, 3)],
                   *[latest(start, 3, day, 1200) for start in (0, 1, 2)])
        for answer in told[5:-6]:
            self.assertEqual(answer, [0])
        return [answer[1] for answer in told[-6:]]

    def test_not_late(self):
        self.assertEqual(self.times(), [610, 620, 630, 601, 612, 623])

    def test_from_the_first_call(self):
        self.assertEqual(self.times(late(0, 2, 0, 7)), [617, 627, 637, 608, 619, 630])

    def test_comes_on_time_to_the_call_it_goes_late_from(self):
        self.assertEqual(self.times(late(0, 2, 1, 7)), [610, 627, 637, 601, 619, 630])
        self.assertEqual(self.times(late(0, 2, 2, 7)), [610, 620, 637, 601, 612, 630])

    def test_from_the_last_call_or_behind_it(self):
        for call in (3, 4, 63):
            self.assertEqual(self.times(late(0, 2, call, 7)), [610, 620, 630, 601, 612, 623])

    def test_told_anew(self):
        self.assertEqual(self.times(late(0, 2, 0, 7), late(0, 2, 2, 3)), [610, 620, 633, 601, 612, 626])
        self.assertEqual(self.times(late(0, 2, 0, 7), late(0, 2, 0, 0)), [610, 620, 630, 601, 612, 623])
        self.assertEqual(self.times(late(0, 2, 0, 7), late(0, 2, 63, 9)), [610, 620, 630, 601, 612, 623])

    def test_between_two_questions(self):
        told = ask(stop(), stop(), HALF_HOUR, earliest(0, 1, 0, 0), late(0, 0, 0, 9), earliest(0, 1, 0, 0),
                   late(0, 0, 1, 9), earliest(0, 1, 0, 0), latest(0, 1, 0, 700), late(0, 0, 0, 9),
                   latest(0, 1, 0, 700))
        self.assertEqual(told[3::2], [[0, 630, 1], [0, 639, 1], [0, 630, 1], [0]])
        self.assertEqual((told[8], told[10]), ([0, 600, 1], [0, 609, 1]))

    def test_of_that_day_alone(self):
        for day in (0, 1, 3, 4, 5, 6):
            self.assertEqual(self.times(late(0, day, 0, 7)), [610, 620, 630, 601, 612, 623])

    def test_of_that_trip_alone(self):
        told = ask(stop(), stop(), HALF_HOUR, HALF_HOUR, late(0, 3, 0, 9), earliest(0, 1, 3, 600),
                   late(1, 3, 0, 4), earliest(0, 1, 3, 600))
        self.assertEqual(told[4:], [[0], [0, 630, 1], [0], [0, 634, 1]])

    def test_where_it_does_not_run(self):
        self.assertEqual(self.times(late(0, 1, 0, 7), days=4), [610, 620, 630, 601, 612, 623])

    def test_the_day_before_and_after_by_their_own_lateness(self):
        night = trip(EVERY_DAY, (0, 1450, 1450), (1, 1460, 1460))
        told = ask(stop(), stop(), night, late(0, 6, 0, 3), late(0, 0, 0, 5), late(0, 1, 0, 240),
                   earliest(0, 1, 0, 0), earliest(0, 1, 0, 14), earliest(0, 1, 0, 1456))
        self.assertEqual(told[6:], [[0, 23, 1], [0, 1465, 1], [0, 3140, 1]])

    def test_ranges(self):
        told = ask(stop(), stop(), HALF_HOUR, late(0, 0, 0, 0), late(0, 6, 63, 240))
        self.assertEqual(told[3:], [[0], [0]])

    def test_out_of_range(self):
        wrong = [late(1, 0, 0, 0), late(-1, 0, 0, 0), late(0, 7, 0, 0), late(0, -1, 0, 0), late(0, 0, 64, 0),
                 late(0, 0, -1, 0), late(0, 0, 0, 241), late(0, 0, 0, -1), late(GREATEST, 0, 0, 0),
                 late(0, LEAST, 0, 0), late(0, 0, GREATEST, 0), late(0, 0, 0, LEAST)]
        self.assertEqual(ask(stop(), stop(), HALF_HOUR, *wrong)[3:], [[-2]] * len(wrong))
        self.assertEqual(ask(late(0, 0, 0, 0)), [[-2]])

    def test_a_refusal_leaves_what_was_told(self):
        told = ask(stop(), stop(), HALF_HOUR, late(0, 0, 0, 9), late(0, 0, 0, 241), late(0, 0, 64, 0),
                   earliest(0, 1, 0, 600))
        self.assertEqual(told[3:], [[0], [-2], [-2], [0, 639, 1]])


if __name__ == "__main__":
    unittest.main()
