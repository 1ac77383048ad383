"""The interface: how calls stand in the list, how they are answered, what is kept and what is not changed."""

import unittest

from lines import EVERY_DAY, earliest, late, latest, line, stop, trip, walk
from timeways.timetable import answers

ALL_CALLS = line(
    stop(3), stop(4), walk(0, 1, 50), trip(EVERY_DAY, (0, 600, 600), (1, 630, 630)), late(0, 2, 0, 5),
    earliest(0, 1, 2, 590), latest(0, 1, 2, 700), latest(0, 1, 2, 10), earliest(1, 0, 2, 590), stop(121),
    trip(EVERY_DAY), trip(0), trip(EVERY_DAY, (0, 600, 600), (9, 630, 630)), trip(1, (1, 5, 5), (0, 6, 6)),
    walk(0, 2, 5), late(2, 0, 0, 0), earliest(0, 2, 0, 0), latest(0, 1, 7, 0),
)


class Line(unittest.TestCase):
    def test_no_calls(self):
        self.assertEqual(answers([]), [])

    def test_each_answer_behind_how_many_numbers_it_has(self):
        self.assertEqual(answers(ALL_CALLS), [
            1, 0, 1, 1, 1, 0, 1, 0, 1, 0,
            3, 0, 635, 1, 3, 0, 650, 0, 3, 0, -40, 0, 1, -1, 1, -2,
            1, -2, 1, -2, 1, -4, 1, 1,
            1, -2, 1, -2, 1, -2, 1, -2,
        ])

    def test_plain_whole_numbers_in_a_plain_list(self):
        told = answers(ALL_CALLS)
        self.assertIs(type(told), list)
        self.assertEqual({type(number) for number in told}, {int})

    def test_what_is_handed_in_stays_as_it_was(self):
        handed = list(ALL_CALLS)
        answers(handed)
        self.assertEqual(handed, ALL_CALLS)

    def test_what_is_handed_in_is_never_changed_on_the_way(self):
        class Watched(list):
            def refuse(self, *given, **named):
                raise AssertionError("the list was changed")
            __setitem__ = __delitem__ = __iadd__ = __imul__ = refuse
            append = extend = insert = pop = remove = clear = sort = reverse = refuse
        self.assertEqual(answers(Watched(ALL_CALLS)), answers(ALL_CALLS))

    def test_nothing_is_kept_for_the_next_time(self):
        first = answers(ALL_CALLS)
        self.assertEqual(answers(line(stop(1), earliest(0, 0, 0, 7), walk(0, 1, 1))), [1, 0, 3, 0, 7, 0, 1, -2])
        self.assertEqual(answers(ALL_CALLS), first)

    def test_an_answer_is_its_own_list(self):
        first = answers(ALL_CALLS)
        first.clear()
        self.assertNotEqual(answers(ALL_CALLS), [])

    def test_300_calls(self):
        self.assertEqual(len(answers(line(*[stop(0)] * 150, *[earliest(0, 0, 0, 0)] * 150))), 2 * 150 + 4 * 150)


if __name__ == "__main__":
    unittest.main()
