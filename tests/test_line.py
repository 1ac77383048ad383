"""The interface: how calls stand in the list, how they are answered, what is kept and what is not changed."""

import unittest

from lines import (
    EVERY_DAY, ask, board, earliest, front, journey, late, latest, line, profile, reach, ride, stop, trip, walk,
)
from timeways.timetable import answers

ALL_CALLS = line(
    stop(3), stop(4), walk(0, 1, 50), trip(EVERY_DAY, (0, 600, 600), (1, 630, 630)), late(0, 2, 0, 5),
    earliest(0, 1, 2, 590), latest(0, 1, 2, 700), latest(0, 1, 2, 10), earliest(1, 0, 2, 590), stop(121),
    trip(EVERY_DAY), trip(0), trip(EVERY_DAY, (0, 600, 600), (9, 630, 630)), trip(1, (1, 5, 5), (0, 6, 6)),
    walk(0, 2, 5), late(2, 0, 0, 0), earliest(0, 2, 0, 0), latest(0, 1, 7, 0),
    front(0, 1, 2, 590), front(0, 1, 2, 590, 1), front(1, 0, 2, 0), profile(0, 1, 2, 584, 605), profile(0, 1, 2, 9, 8),
    reach(1, 2, 590), reach(1, 2, 590, 1), journey(0, 1, 2, 590), journey(0, 1, 2, 590, 0), journey(1, 0, 2, 0),
    journey(0, 0, 2, 0), board(0, 2, 605, 1), board(0, 2, 605), board(1, 2, 0), board(0, 2, 605, -1),
)

# Each of what may be asked, about the one way from 0 to 1.
QUESTIONS = (
    earliest(0, 1, 0, 5), latest(0, 1, 0, 60), front(0, 1, 0, 5), profile(0, 1, 0, 5, 10), reach(0, 0, 5),
    journey(0, 1, 0, 5), board(0, 0, 5),
)


class Line(unittest.TestCase):
    def test_no_calls(self):
        self.assertEqual(answers([]), [])

    def test_each_answer_behind_how_many_numbers_it_has(self):
        self.assertEqual(answers(ALL_CALLS), [
            1, 0, 1, 1, 1, 0, 1, 0, 1, 0,
            3, 0, 635, 1, 3, 0, 650, 0, 3, 0, -40, 0, 1, -1, 1, -2,
            1, -2, 1, -2, 1, -4, 1, 1,
            1, -2, 1, -2, 1, -2, 1, -2,
            5, 2, 0, 640, 1, 635, 1, -3, 1, 0, 5, 2, 584, 634, 605, 635, 1, -2,
            3, 2, -1, 590, 1, -3, 6, 1, 0, 0, 0, 1, 635, 1, -3, 1, -1,
            1, 0, 5, 1, 605, 0, 0, 1, 9, 2, 605, 0, 0, 1, 2040, 0, 1, 1, 1, 0, 1, -2,
        ])

    def test_plain_whole_numbers_in_a_plain_list(self):
        told = answers(ALL_CALLS)
        self.assertIs(type(told), list)
        self.assertEqual({type(number) for number in told}, {int})

    def test_what_is_handed_in_stays_as_it_was(self):
        handed = list(ALL_CALLS)
        answers(handed)
        self.assertEqual(handed, ALL_CALLS)

    def test_what_is_handed_in_is_never_changed_on_the_way(self):
        class Watched(list):
            def refuse(self, *given, **named):
                raise AssertionError("the list was changed")
            __setitem__ = __delitem__ = __iadd__ = __imul__ = refuse
            append = extend = insert = pop = remove = clear = sort = reverse = refuse
        self.assertEqual(answers(Watched(ALL_CALLS)), answers(ALL_CALLS))

    def test_nothing_is_kept_for_the_next_time(self):
        first = answers(ALL_CALLS)
        self.assertEqual(answers(line(stop(1), earliest(0, 0, 0, 7), walk(0, 1, 1))), [1, 0, 3, 0, 7, 0, 1, -2])
        self.assertEqual(answers(ALL_CALLS), first)

    def test_an_answer_is_its_own_list(self):
        first = answers(ALL_CALLS)
        first.clear()
        self.assertNotEqual(answers(ALL_CALLS), [])

    def test_calls_in_any_order(self):
        told = ask(*QUESTIONS, stop(), *QUESTIONS, stop(), *QUESTIONS, ride(0, 10, 1, 20, days=1), *QUESTIONS,
                   late(0, 0, 0, 7), *QUESTIONS, walk(0, 1, 21), *QUESTIONS, ride(0, 17, 1, 26, days=1), *QUESTIONS,
                   stop(), *QUESTIONS)
        self.assertEqual(told[0:7], [[-2]] * 7)
        self.assertEqual(told[7:15], [[0], [-2], [-2], [-2], [-2], [1, 5], [-2], [0]])
        self.assertEqual(told[15:23], [[1], [-1], [-1], [0], [0], [2, 5, -1], [-1], [0]])
        self.assertEqual(told[23:31], [
            [0], [0, 20, 1], [0, 10, 1], [1, 1, 20], [1, 10, 20], [2, 5, 20], [1, 0, 0, 0, 1, 20], [1, 10, 0, 0, 1],
        ])
        self.assertEqual(told[31:39], [
            [0], [0, 27, 1], [0, 17, 1], [1, 1, 27], [0], [2, 5, 27], [1, 0, 0, 0, 1, 27], [1, 17, 0, 0, 1],
        ])
        self.assertEqual(told[39:47], [
            [0], [0, 26, 0], [0, 39, 0], [1, 0, 26], [1, 5, 26], [2, 5, 26], [1, -1, 0, 0, 1, 26], [1, 17, 0, 0, 1],
        ])
        self.assertEqual(told[47:55], [
            [1], [0, 26, 0], [0, 39, 0], [1, 0, 26], [0], [2, 5, 26], [1, -1, 0, 0, 1, 26],
            [2, 17, 0, 0, 1, 17, 1, 0, 1],
        ])
        self.assertEqual(told[55:], [
            [2], [0, 26, 0], [0, 39, 0], [1, 0, 26], [0], [3, 5, 26, -1], [1, -1, 0, 0, 1, 26],
            [2, 17, 0, 0, 1, 17, 1, 0, 1],
        ])

    def test_asking_changes_nothing(self):
        told = [stop(5), stop(5), ride(0, 10, 1, 20), walk(1, 0, 9), late(0, 0, 0, 3), stop(0), walk(1, 2, 3)]
        plain = ask(*told, *QUESTIONS)
        mixed = ask(*[call for part in told for call in (part, *QUESTIONS)], *QUESTIONS)
        self.assertEqual(mixed[0::8][:len(told)], plain[:len(told)])
        self.assertEqual(mixed[-14:-7], plain[-7:])
        self.assertEqual(mixed[-7:], plain[-7:])
        self.assertEqual(ask(*told, *reversed(QUESTIONS))[-7:], plain[-7:][::-1])

    def test_what_is_refused_changes_nothing(self):
        told = [stop(5), stop(5), ride(0, 10, 1, 20), walk(1, 0, 9), late(0, 0, 0, 3)]
        refused = [stop(121), trip(0), trip(1, (0, 5, 4), (1, 6, 6)), walk(0, 2, 3), late(0, 0, 0, 241),
                   front(0, 1, 0, 0, 0), profile(0, 1, 0, 6, 5), reach(0, 0, 0, 1), journey(0, 1, 0, 0, 0),
                   board(0, 0, 0, 4097)]
        answered = ask(*told, *refused, *QUESTIONS)
        self.assertEqual(answered[5:15], [[-2], [-2], [-4], [-2], [-2], [-3], [-2], [-3], [-3], [-2]])
        self.assertEqual(answered[15:], ask(*told, *QUESTIONS)[5:])

    def test_300_calls(self):
        self.assertEqual(len(answers(line(*[stop(0)] * 150, *[earliest(0, 0, 0, 0)] * 150))), 2 * 150 + 4 * 150)


if __name__ == "__main__":
    unittest.main()
