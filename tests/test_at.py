import unittest

from line import ALL, ask, at, busy, drop, hours, last, mondays, off, person, sure, week


class AtTest(unittest.TestCase):
    def test_those_who_are_free(self):
        calls = mondays(4) + [busy(1, 100, 200, 1), busy(3, 150, 160, 1)]
        asked = [at(moment, [0, 1, 2, 3]) for moment in (0, 99, 100, 149, 150, 159, 160, 199, 200, 1439)]
        self.assertEqual(ask(*calls, *asked)[len(calls):],
                         [[15], [15], [13], [13], [5], [5], [13], [13], [15], [15]])

    def test_none_of_them(self):
        self.assertEqual(last(person(0), at(0, [0])), [0])
        self.assertEqual(last(*mondays(2), at(1440, [0, 1])), [0])
        self.assertEqual(last(*mondays(2), busy(0, 5, 6, 1), busy(1, 5, 6, 1), at(5, [1, 0])), [0])

    def test_by_the_peoples_numbers_not_their_places(self):
        calls = mondays(8)
        for k in range(8):
            self.assertEqual(last(*calls, at(7, [k])), [2 ** k])
        self.assertEqual(last(*calls, at(7, [6, 1])), [66])
        self.assertEqual(last(*calls, at(7, [7, 6, 5, 4, 3, 2, 1, 0])), [255])

    def test_those_who_are_not_asked_for_count_nothing(self):
        self.assertEqual(last(*mondays(4), at(7, [2])), [4])
        self.assertEqual(last(*mondays(4), at(7, [3, 1])), [10])

    def test_at_the_ends_of_the_hours(self):
        calls = [person(0), hours(0, 1, 500, 600)]
        for moment, told in ((499, 0), (500, 1), (599, 1), (600, 0)):
            self.assertEqual(last(*calls, at(moment, [0])), [told])

    def test_by_each_ones_clock_and_days_off(self):
        calls = [person(60), person(-60), *week(0, 540, 600), *week(1, 540, 600)]
        for moment, told in ((479, 0), (480, 1), (539, 1), (540, 0), (599, 0), (600, 2), (659, 2), (660, 0)):
            self.assertEqual(last(*calls, at(moment, [0, 1])), [told])
        self.assertEqual(last(*calls, off(0, 0), at(480, [0, 1])), [0])
        self.assertEqual(last(*calls, off(0, 1), at(480, [0, 1])), [1])

    def test_what_is_busy_perhaps_takes_nothing(self):
        calls = mondays(1) + [busy(0, 0, 100, 0)]
        self.assertEqual(last(*calls, at(50, [0])), [1])
        self.assertEqual(last(*calls, sure(0), at(50, [0])), [0])
        self.assertEqual(last(*calls, sure(0), drop(0), at(50, [0])), [1])

    def test_the_last_moment(self):
        calls = [person(0), *week(0, 0, 1440)]
        self.assertEqual(last(*calls, at(ALL - 1, [0])), [1])
        self.assertEqual(last(*calls, busy(0, ALL - 1, ALL, 1), at(ALL - 1, [0])), [0])


class AtRefusedTest(unittest.TestCase):
    def test_no_such_moment(self):
        calls = [person(0), *week(0, 0, 1440)]
        for moment in (ALL, ALL + 1, 150000):
            self.assertEqual(last(*calls, at(moment, [0])), [-1])
        self.assertEqual(last(person(840), *week(0, 0, 1440), at(ALL, [0])), [-1])
        self.assertEqual(last(person(-840), *week(0, 0, 1440), at(ALL, [0])), [-1])

    def test_the_people_ahead_of_the_moment(self):
        for moment in (0, ALL - 1, ALL, 150000):
            self.assertEqual(last(*mondays(2), at(moment, [2])), [-3])
            self.assertEqual(last(*mondays(2), at(moment, [2, 2])), [-3])
            self.assertEqual(last(*mondays(2), at(moment, [0, 0, 2])), [-3])
            self.assertEqual(last(*mondays(2), at(moment, [])), [-1])
            self.assertEqual(last(*mondays(2), at(moment, [0, 0])), [-1])


if __name__ == "__main__":
    unittest.main()
