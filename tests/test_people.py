"""What all calls with some people, and all calls with a window, have in common."""

import itertools
import unittest

from line import ALL, ask, at, best, busy, common, first, free, hours, last, minutes, mondays, most, person

# Day 99, the last one, is a Tuesday.
TUESDAYS = [hours(k, 2, 0, 1440) for k in range(3)]

WITH_PEOPLE = {
    "common": lambda people, a=0, b=1440: common(a, b, people),
    "first": lambda people, a=0, b=1440: first(10, a, b, 1, people),
    "best": lambda people, a=0, b=1440: best(10, a, b, people),
    "most": lambda people, a=0, b=1440: most(10, a, b, people),
    "at": lambda people, a=0, b=1440: at(a, people),
}

WITH_WINDOW = {
    "free": lambda a, b: free(0, a, b),
    "common": lambda a, b: common(a, b, [0, 1]),
    "first": lambda a, b: first(1, a, b, 1, [0, 1]),
    "best": lambda a, b: best(1, a, b, [0, 1]),
    "most": lambda a, b: most(1, a, b, [0, 1]),
    "minutes": lambda a, b: minutes(0, a, b),
}

NO_WINDOWS = ((0, 0), (10, 10), (11, 10), (ALL, ALL), (ALL, 0), (0, ALL + 1), (0, 150000), (ALL - 1, ALL + 1),
              (ALL, ALL + 1), (150000, 150000), (ALL + 1, ALL))


class SomePeopleTest(unittest.TestCase):
    def test_one_that_is_not_there(self):
        for name, call in WITH_PEOPLE.items():
            for people in ([2], [20], [0, 2], [2, 0], [0, 1, 2], [0, 20, 1], [2, 3]):
                self.assertEqual(last(*mondays(2), call(people)), [-3], (name, people))

    def test_nobody_at_all_is_there(self):
        for name, call in WITH_PEOPLE.items():
            self.assertEqual(last(call([0])), [-3], name)
            self.assertEqual(last(call([])), [-1], name)

    def test_one_that_is_not_there_and_one_that_stands_twice(self):
        for name, call in WITH_PEOPLE.items():
            for people in ([2, 2], [0, 0, 2], [2, 0, 0], [0, 2, 0], [0, 2, 2], [3] * 10, [0] * 9 + [2]):
                self.assertEqual(last(*mondays(2), call(people)), [-3], (name, people))

    def test_one_that_is_not_there_and_no_window(self):
        for name, call in WITH_PEOPLE.items():
            for a, b in ((10, 10), (10, 9), (ALL, ALL), (0, ALL + 1), (ALL, 150000)):
                self.assertEqual(last(*mondays(2), call([0, 2], a, b)), [-3], (name, a, b))

    def test_none(self):
        for name, call in WITH_PEOPLE.items():
            self.assertEqual(last(*mondays(2), call([])), [-1], name)

    def test_one_stands_twice(self):
        for name, call in WITH_PEOPLE.items():
            for people in ([0, 0], [1, 1], [0, 1, 0], [0, 1, 1], [1, 0, 0], [0] * 10):
                self.assertEqual(last(*mondays(2), call(people)), [-1], (name, people))

    def test_unfit_people_ahead_of_no_start(self):
        for call in (first(2000, 0, 1440, 1, []), first(2000, 0, 1440, 1, [0, 0]), best(2000, 0, 1440, []),
                     best(2000, 0, 1440, [0, 0]), most(2000, 0, 1440, []), most(2000, 0, 1440, [0, 0])):
            self.assertEqual(last(*mondays(2), call), [-1], call)

    def test_no_such_person_ahead_of_all_else(self):
        for call in (first(0, 0, 1440, 1, [2]), first(1, 0, 1440, 0, [2]), first(1, 0, 1440, 1441, [2]),
                     first(2000, 0, 1440, 1, [2]), best(0, 0, 1440, [2]), best(2000, 0, 1440, [2]),
                     most(0, 0, 1440, [2]), most(2000, 0, 1440, [2]), at(ALL, [2]), at(ALL, [2, 2])):
            self.assertEqual(last(*mondays(2), call), [-3], call)

    def test_the_order_in_which_they_stand_changes_nothing(self):
        calls = mondays(4) + [busy(0, 0, 100, 1), busy(1, 50, 200, 1), busy(2, 300, 900, 1), busy(3, 290, 301, 1),
                              busy(1, 200, 260, 0), busy(3, 220, 280, 0), busy(2, 1000, 1400, 0)]
        for name, call in WITH_PEOPLE.items():
            for some in ([0, 1], [1, 3], [0, 2, 3], [0, 1, 2, 3]):
                asked = [call(list(people)) for people in itertools.permutations(some)]
                told = ask(*calls, *asked)[len(calls):]
                self.assertEqual(told, [told[0]] * len(asked), (name, some))
                self.assertGreaterEqual(told[0][0], 0, (name, some))

    def test_all_eight(self):
        everyone = [7, 3, 0, 1, 2, 6, 5, 4]
        calls = mondays(8) + [busy(k, 10 * k, 10 * k + 5, 1) for k in range(8)]
        told = ask(*calls, common(0, 1440, everyone), first(20, 0, 1440, 1, everyone), best(5, 0, 1440, everyone),
                   most(20, 0, 1440, everyone), at(72, everyone), at(80, everyone))[len(calls):]
        self.assertEqual(told, [[8, 5, 10, 15, 20, 25, 30, 35, 40, 45, 50, 55, 60, 65, 70, 75, 1440],
                                [75], [5, 0], [75, 8, 255], [127], [255]])


class WindowsTest(unittest.TestCase):
    def test_no_window(self):
        for name, call in WITH_WINDOW.items():
            for a, b in NO_WINDOWS:
                self.assertEqual(last(*mondays(2), *TUESDAYS[:2], call(a, b)), [-1], (name, a, b))

    def test_no_window_ahead_of_no_start(self):
        for a, b in NO_WINDOWS:
            for call in (first(150000, a, b, 1, [0]), best(150000, a, b, [0]), most(150000, a, b, [0])):
                self.assertEqual(last(person(0), call), [-1], call)

    def test_up_to_the_last_moment(self):
        calls = mondays(2) + TUESDAYS[:2]
        told = {"free": [1, ALL - 7, ALL], "common": [1, ALL - 7, ALL], "first": [ALL - 7], "best": [ALL - 7, 0],
                "most": [ALL - 7, 2, 3], "minutes": [7, 0, 0]}
        for name, call in WITH_WINDOW.items():
            self.assertEqual(last(*calls, call(ALL - 7, ALL)), told[name], name)

    def test_one_moment(self):
        told = {"free": [1, 0, 1], "common": [1, 0, 1], "first": [0], "best": [0, 0], "most": [0, 2, 3],
                "minutes": [1, 0, 0]}
        for name, call in WITH_WINDOW.items():
            self.assertEqual(last(*mondays(2), call(0, 1)), told[name], name)

    def test_all_of_it(self):
        told = {"free": [15], "common": [15], "first": [0], "best": [0, 0], "most": [0, 2, 3],
                "minutes": [15 * 1440, 0, 0]}
        for name, call in WITH_WINDOW.items():
            numbers = last(*mondays(2), call(0, ALL))
            self.assertEqual(numbers[:len(told[name])], told[name], name)


class ChangeNothingTest(unittest.TestCase):
    def test_what_is_answered_after_a_question_is_as_without_it(self):
        calls = mondays(3) + [busy(0, 0, 100, 1), busy(1, 50, 200, 0), busy(2, 60, 70, 0), busy(2, 65, 90, 1)]
        after = [free(0, 0, 1440), common(0, 1440, [0, 1, 2]), first(30, 0, 1440, 7, [2, 0]),
                 best(30, 0, 1440, [0, 1]), best(30, 80, 300, [1, 2]), most(40, 0, 1440, [2, 1, 0]),
                 at(68, [0, 1, 2]), minutes(0, 0, 1440), minutes(1, 0, 1440), minutes(2, 0, 1440),
                 [3, 0, 5, 6, 0], [5, 1], [4, 0], [2, 1, 0], [1, 2, 1, 0, 70], [0, 5], free(1, 0, ALL),
                 common(0, 1440, [1, 2]), best(10, 0, 1440, [0, 2])]
        alone = ask(*calls, *after)[len(calls):]
        questions = after[:10] + [
            common(10, 9, [0]), common(0, 9, [9]), first(0, 0, 9, 1, [0]), first(9, 0, 9, 0, [0]),
            first(99, 0, 9, 1, [0]), best(0, 0, 9, [0]), best(99, 0, 9, [0]), best(9, 0, 9, [7]),
            most(0, 0, 9, [0]), most(99, 0, 9, [0]), most(9, 0, 9, []), at(ALL, [0]), at(0, [0, 0]),
            minutes(0, 9, 9), minutes(9, 0, 9)]
        for question in questions:
            self.assertEqual(ask(*calls, question, *after)[len(calls) + 1:], alone, question)
            self.assertEqual(ask(question, *calls, *after)[1 + len(calls):], alone, question)


if __name__ == "__main__":
    unittest.main()
