import unittest

from line import ALL, busy, hours, last, mondays, most, off, person, sure, week


class MostTest(unittest.TestCase):
    def test_all_of_them(self):
        calls = mondays(3) + [busy(0, 0, 100, 1), busy(1, 50, 200, 1), busy(2, 300, 400, 1)]
        self.assertEqual(last(*calls, most(100, 0, 1440, [0, 1, 2])), [200, 3, 7])
        self.assertEqual(last(*calls, most(101, 0, 1440, [0, 1, 2])), [400, 3, 7])
        self.assertEqual(last(*calls, most(100, 0, 1440, [0, 2])), [100, 2, 5])

    def test_the_most_of_them_if_not_all(self):
        calls = mondays(3) + [busy(0, 0, 500, 1), busy(1, 500, 1000, 1), busy(2, 1000, 1440, 1)]
        self.assertEqual(last(*calls, most(100, 0, 1440, [0, 1, 2])), [0, 2, 6])
        self.assertEqual(last(*calls, most(100, 401, 1440, [0, 1, 2])), [500, 2, 5])
        self.assertEqual(last(*calls, most(500, 1, 1440, [0, 1, 2])), [500, 2, 5])
        self.assertEqual(last(*calls, most(501, 1, 1440, [0, 1, 2])), [1, 1, 4])
        self.assertEqual(last(*calls, most(900, 0, 1440, [0, 1, 2])), [0, 1, 4])

    def test_of_several_the_first(self):
        self.assertEqual(last(*mondays(2), most(10, 0, 1440, [0, 1])), [0, 2, 3])
        self.assertEqual(last(*mondays(2), most(10, 33, 1440, [0, 1])), [33, 2, 3])
        calls = mondays(2) + [busy(0, 0, 100, 1), busy(1, 100, 200, 1), busy(0, 200, 1440, 1)]
        self.assertEqual(last(*calls, most(10, 0, 1440, [0, 1])), [0, 1, 2])
        self.assertEqual(last(*calls, most(10, 91, 1440, [0, 1])), [100, 1, 1])

    def test_more_of_them_later_by_the_same_moment(self):
        calls = mondays(4) + [busy(0, 500, 1440, 1), busy(1, 0, 490, 1), busy(2, 0, 491, 1), busy(3, 0, 491, 1)]
        self.assertEqual(last(*calls, most(10, 0, 1440, [0, 1, 2, 3])), [491, 3, 14])
        self.assertEqual(last(*calls, most(9, 0, 1440, [0, 1, 2, 3])), [491, 4, 15])

    def test_one_goes_as_another_comes(self):
        calls = mondays(3) + [busy(0, 500, 1440, 1), busy(1, 0, 491, 1)]
        self.assertEqual(last(*calls, most(10, 0, 1440, [0, 1, 2])), [0, 2, 5])
        self.assertEqual(last(*calls, most(9, 0, 1440, [0, 1, 2])), [491, 3, 7])
        self.assertEqual(last(*calls, most(10, 485, 1440, [0, 1, 2])), [485, 2, 5])
        self.assertEqual(last(*calls, most(10, 491, 1440, [0, 1, 2])), [491, 2, 6])

    def test_each_one_all_of_it(self):
        calls = mondays(2) + [busy(0, 50, 51, 1), busy(1, 120, 121, 1)]
        self.assertEqual(last(*calls, most(100, 0, 150, [0, 1])), [0, 1, 2])
        self.assertEqual(last(*calls, most(69, 0, 150, [0, 1])), [51, 2, 3])
        self.assertEqual(last(*calls, most(70, 0, 150, [0, 1])), [0, 1, 2])
        self.assertEqual(last(*calls, most(121, 0, 150, [0, 1])), [0, 0, 0])

    def test_one_who_is_free_too_short_takes_nothing_from_the_others(self):
        calls = [person(0), person(0), hours(0, 1, 105, 110), hours(1, 1, 70, 120)]
        self.assertEqual(last(*calls, most(50, 0, 1440, [0, 1])), [70, 1, 2])
        self.assertEqual(last(*calls, most(5, 0, 1440, [0, 1])), [105, 2, 3])
        self.assertEqual(last(*calls, most(6, 0, 1440, [0, 1])), [70, 1, 2])

    def test_none_of_them(self):
        self.assertEqual(last(person(0), most(10, 0, ALL, [0])), [0, 0, 0])
        self.assertEqual(last(person(0), person(0), most(10, 77, 1000, [1, 0])), [77, 0, 0])
        self.assertEqual(last(*mondays(2), most(10, 1440, 10080, [0, 1])), [1440, 0, 0])
        self.assertEqual(last(*mondays(2), most(1441, 5, 10000, [0, 1])), [5, 0, 0])
        self.assertEqual(last(*mondays(1), most(10, 1431, 10080, [0])), [1431, 0, 0])
        self.assertEqual(last(*mondays(1), most(10, 1430, 10080, [0])), [1430, 1, 1])

    def test_by_the_peoples_numbers_not_their_places(self):
        calls = mondays(5)
        self.assertEqual(last(*calls, most(10, 0, 1440, [3])), [0, 1, 8])
        self.assertEqual(last(*calls, most(10, 0, 1440, [4, 2])), [0, 2, 20])
        self.assertEqual(last(*calls, busy(4, 0, 1440, 1), most(10, 0, 1440, [4, 1, 3])), [0, 2, 10])

    def test_those_who_are_not_asked_for_count_nothing(self):
        calls = mondays(3) + [busy(0, 0, 100, 1), busy(1, 0, 200, 1)]
        self.assertEqual(last(*calls, most(10, 0, 1440, [2])), [0, 1, 4])
        self.assertEqual(last(*calls, most(10, 0, 1440, [0, 2])), [100, 2, 5])

    def test_what_is_busy_perhaps_takes_nothing(self):
        calls = mondays(2) + [busy(0, 0, 100, 0)]
        self.assertEqual(last(*calls, most(10, 0, 1440, [0, 1])), [0, 2, 3])
        self.assertEqual(last(*calls, sure(0), most(10, 0, 1440, [0, 1])), [100, 2, 3])

    def test_by_each_ones_clock_and_days_off(self):
        calls = [person(60), person(-60), *week(0, 540, 600), *week(1, 540, 600)]
        self.assertEqual(last(*calls, most(60, 0, 1440, [0, 1])), [480, 1, 1])
        self.assertEqual(last(*calls, off(0, 0), most(60, 0, 1440, [0, 1])), [600, 1, 2])
        self.assertEqual(last(*calls, hours(1, 1, 420, 480), most(60, 0, 1440, [0, 1])), [480, 2, 3])

    def test_as_long_as_the_window(self):
        calls = mondays(2) + [busy(1, 149, 150, 1)]
        self.assertEqual(last(*calls, most(100, 50, 150, [0, 1])), [50, 1, 1])
        self.assertEqual(last(*calls, most(99, 50, 150, [0, 1])), [50, 2, 3])
        self.assertEqual(last(*calls, most(99, 50, 149, [0, 1])), [50, 2, 3])
        self.assertEqual(last(person(0), *week(0, 0, 1440), most(ALL, 0, ALL, [0])), [0, 1, 1])

    def test_all_of_it_within_the_window(self):
        calls = mondays(2) + [busy(0, 0, 95, 1)]
        self.assertEqual(last(*calls, most(10, 0, 104, [0, 1])), [0, 1, 2])
        self.assertEqual(last(*calls, most(10, 0, 105, [0, 1])), [95, 2, 3])


class MostRefusedTest(unittest.TestCase):
    def test_the_window_is_shorter(self):
        for calls in (mondays(1), [person(0)]):
            self.assertEqual(last(*calls, most(101, 50, 150, [0])), [-6])
            self.assertEqual(last(*calls, most(2, 0, 1, [0])), [-6])
            self.assertEqual(last(*calls, most(150000, 0, ALL, [0])), [-6])
            self.assertEqual(last(*calls, most(ALL + 1, 0, ALL, [0])), [-6])

    def test_no_length(self):
        self.assertEqual(last(*mondays(1), most(0, 0, 1440, [0])), [-1])
        self.assertEqual(last(person(0), most(0, 0, 1440, [0])), [-1])

    def test_unfit_ahead_of_shorter(self):
        self.assertEqual(last(*mondays(1), most(9, 10, 10, [0])), [-1])
        self.assertEqual(last(*mondays(1), most(150000, 0, ALL + 1, [0])), [-1])
        self.assertEqual(last(*mondays(1), most(150000, 0, 10, [0, 0])), [-1])
        self.assertEqual(last(*mondays(1), most(150000, 0, 10, [1])), [-3])


if __name__ == "__main__":
    unittest.main()
