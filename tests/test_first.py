import unittest

from line import ALL, busy, first, hours, last, mondays, off, person, sure, week


class FirstTest(unittest.TestCase):
    def test_the_first_stretch_that_is_long_enough(self):
        calls = mondays(2) + [busy(0, 0, 100, 1), busy(1, 130, 200, 1), busy(0, 260, 300, 1)]
        self.assertEqual(last(*calls, first(30, 0, 1440, 1, [0, 1])), [100])
        self.assertEqual(last(*calls, first(31, 0, 1440, 1, [0, 1])), [200])
        self.assertEqual(last(*calls, first(60, 0, 1440, 1, [0, 1])), [200])
        self.assertEqual(last(*calls, first(61, 0, 1440, 1, [0, 1])), [300])
        self.assertEqual(last(*calls, first(31, 0, 1440, 1, [0])), [100])

    def test_what_is_busy_perhaps_takes_nothing(self):
        calls = mondays(1) + [busy(0, 0, 100, 0)]
        self.assertEqual(last(*calls, first(30, 0, 1440, 1, [0])), [0])
        self.assertEqual(last(*calls, sure(0), first(30, 0, 1440, 1, [0])), [100])

    def test_a_multiple_of_g(self):
        calls = mondays(1) + [busy(0, 0, 101, 1)]
        for g, moment in ((1, 101), (2, 102), (7, 105), (15, 105), (60, 120), (101, 101), (102, 102), (97, 194),
                          (720, 720), (1000, 1000)):
            self.assertEqual(last(*calls, first(10, 0, 1440, g, [0])), [moment])

    def test_counted_from_moment_0_not_from_the_window_or_the_clock(self):
        self.assertEqual(last(*mondays(1), first(10, 7, 1440, 60, [0])), [60])
        self.assertEqual(last(*mondays(1), first(10, 60, 1440, 60, [0])), [60])
        self.assertEqual(last(*mondays(1), first(10, 61, 1440, 60, [0])), [120])
        calls = [person(25), *week(0, 600, 700)]
        self.assertEqual(last(*calls, first(10, 0, 1440, 60, [0])), [600])

    def test_0_is_a_multiple_of_each(self):
        for g in (1, 2, 97, 1440):
            self.assertEqual(last(*mondays(1), first(10, 0, 1440, g, [0])), [0])

    def test_a_stretch_without_a_multiple_early_enough(self):
        calls = mondays(1) + [busy(0, 0, 61, 1), busy(0, 119, 170, 1), busy(0, 200, 230, 1)]
        self.assertEqual(last(*calls, first(20, 0, 1440, 60, [0])), [180])
        self.assertEqual(last(*calls, first(21, 0, 1440, 60, [0])), [240])
        self.assertEqual(last(*calls, first(20, 0, 199, 60, [0])), [-6])

    def test_the_greatest_g(self):
        calls = [person(0), *week(0, 0, 1440), busy(0, 0, 1, 1)]
        self.assertEqual(last(*calls, first(1, 0, ALL, 1440, [0])), [1440])
        self.assertEqual(last(*calls, first(1, 1441, ALL, 1440, [0])), [2880])
        self.assertEqual(last(*calls, first(1440, ALL - 1440, ALL, 1440, [0])), [ALL - 1440])

    def test_just_fits_up_to_the_windows_end(self):
        self.assertEqual(last(*mondays(1), first(100, 50, 150, 1, [0])), [50])
        self.assertEqual(last(*mondays(1), first(101, 50, 150, 1, [0])), [-6])
        self.assertEqual(last(*mondays(1), first(90, 50, 150, 60, [0])), [60])
        self.assertEqual(last(*mondays(1), first(91, 50, 150, 60, [0])), [-6])

    def test_just_fits_up_to_the_end_of_what_is_free(self):
        self.assertEqual(last(*mondays(1), first(1440, 0, 9000, 1, [0])), [0])
        self.assertEqual(last(*mondays(1), first(1441, 0, 9000, 1, [0])), [-6])
        self.assertEqual(last(*mondays(1), first(40, 1400, 9000, 1, [0])), [1400])
        self.assertEqual(last(*mondays(1), first(41, 1400, 9000, 1, [0])), [-6])
        self.assertEqual(last(*mondays(1), first(41, 1400, 20000, 1, [0])), [10080])

    def test_over_midnight(self):
        calls = [person(0), hours(0, 1, 1200, 1440), hours(0, 2, 0, 300)]
        self.assertEqual(last(*calls, first(540, 0, 9000, 1, [0])), [1200])
        self.assertEqual(last(*calls, first(540, 0, 9000, 7, [0])), [-6])
        self.assertEqual(last(*calls, first(241, 0, 9000, 1440, [0])), [1440])

    def test_the_longest(self):
        calls = [person(0), *week(0, 0, 1440)]
        self.assertEqual(last(*calls, first(ALL, 0, ALL, 1440, [0])), [0])
        self.assertEqual(last(*calls, first(ALL + 1, 0, ALL, 1, [0])), [-6])
        self.assertEqual(last(*calls, first(150000, 0, ALL, 1, [0])), [-6])
        self.assertEqual(last(*calls, first(1, ALL - 1, ALL, 1, [0])), [ALL - 1])

    def test_none(self):
        self.assertEqual(last(person(0), first(1, 0, ALL, 1, [0])), [-6])
        self.assertEqual(last(*mondays(2), off(1, 0), first(1, 0, 9000, 1, [0, 1])), [-6])
        calls = mondays(2) + [busy(0, 0, 700, 1), busy(1, 700, 1440, 1)]
        self.assertEqual(last(*calls, first(1, 0, 9000, 1, [0, 1])), [-6])


class FirstRefusedTest(unittest.TestCase):
    def test_no_length(self):
        self.assertEqual(last(*mondays(1), first(0, 0, 1440, 1, [0])), [-1])
        self.assertEqual(last(person(0), first(0, 0, 1440, 1, [0])), [-1])

    def test_g(self):
        for g in (1, 2, 1439, 1440):
            self.assertEqual(last(*mondays(1), first(1, 0, 1440, g, [0])), [0])
        for g in (0, 1441, 2000):
            self.assertEqual(last(*mondays(1), first(1, 0, 1440, g, [0])), [-1])

    def test_unfit_ahead_of_none(self):
        for call in (first(0, 0, 1440, 1, [0]), first(2000, 0, 1440, 0, [0]), first(2000, 0, 1440, 1441, [0]),
                     first(2000, 10, 10, 1, [0]), first(1, 0, 1440, 0, [0])):
            self.assertEqual(last(person(0), call), [-1])


if __name__ == "__main__":
    unittest.main()
