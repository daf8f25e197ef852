import unittest

from line import ALL, ask, busy, common, free, hours, last, mondays, off, person, week


class CommonTest(unittest.TestCase):
    def test_of_one_person_it_is_as_free(self):
        calls = [person(90), *week(0, 500, 1100), busy(0, 0, 700, 1), busy(0, 800, 2300, 0), busy(0, 4000, 4001, 1)]
        for a, b in ((0, ALL), (0, 1440), (420, 421), (600, 5000), (0, 100)):
            told = ask(*calls, free(0, a, b), common(a, b, [0]))
            self.assertEqual(told[-1], told[-2])
        self.assertEqual(last(*calls, common(0, 3000, [0])), [2, 700, 1010, 1850, 2450])

    def test_where_each_one_works(self):
        calls = [person(0), person(0), person(0), hours(0, 1, 500, 900), hours(1, 1, 600, 1000),
                 hours(2, 1, 550, 950)]
        self.assertEqual(last(*calls, common(0, 1440, [0, 1])), [1, 600, 900])
        self.assertEqual(last(*calls, common(0, 1440, [1, 2])), [1, 600, 950])
        self.assertEqual(last(*calls, common(0, 1440, [0, 1, 2])), [1, 600, 900])

    def test_by_each_ones_clock(self):
        calls = [person(-300), person(540), *week(0, 540, 1020), *week(1, 540, 1020)]
        self.assertEqual(last(*calls, common(0, ALL, [0, 1])), [0])
        calls = [person(-300), person(120), *week(0, 540, 1020), *week(1, 540, 1020)]
        self.assertEqual(last(*calls, common(0, 2880, [0, 1])), [2, 840, 900, 2280, 2340])

    def test_what_is_busy_for_sure_of_each_one(self):
        calls = mondays(3) + [busy(0, 100, 200, 1), busy(1, 150, 300, 1), busy(2, 400, 500, 1), busy(0, 600, 700, 0)]
        self.assertEqual(last(*calls, common(0, 1440, [0, 1])), [2, 0, 100, 300, 1440])
        self.assertEqual(last(*calls, common(0, 1440, [0, 1, 2])), [3, 0, 100, 300, 400, 500, 1440])
        self.assertEqual(last(*calls, common(0, 1440, [0, 2])), [3, 0, 100, 200, 400, 500, 1440])

    def test_the_days_off_of_each_one(self):
        calls = [person(0), person(0), *week(0, 0, 10), *week(1, 5, 20), off(0, 0), off(1, 2)]
        self.assertEqual(last(*calls, common(0, 5760, [0, 1])), [2, 1445, 1450, 4325, 4330])

    def test_those_that_touch_are_one(self):
        calls = [person(0), person(0), hours(0, 1, 1200, 1440), hours(0, 2, 0, 300), *week(1, 0, 1440)]
        self.assertEqual(last(*calls, common(0, 10080, [0, 1])), [1, 1200, 1740])
        self.assertEqual(last(*calls, common(0, 10080, [1, 0])), [1, 1200, 1740])

    def test_over_midnight_by_two_clocks_it_is_one(self):
        calls = [person(0), person(600), *week(0, 0, 1440), *week(1, 0, 1440)]
        self.assertEqual(last(*calls, common(0, ALL, [0, 1])), [1, 0, ALL])

    def test_a_minute_apart_they_are_two(self):
        calls = mondays(2) + [busy(1, 100, 101, 1)]
        self.assertEqual(last(*calls, common(0, 1440, [0, 1])), [2, 0, 100, 101, 1440])

    def test_where_one_ends_as_the_other_begins_there_is_none(self):
        calls = [person(0), person(0), hours(0, 1, 500, 600), hours(1, 1, 600, 700)]
        self.assertEqual(last(*calls, common(0, ALL, [0, 1])), [0])
        calls = [person(0), person(0), hours(0, 1, 500, 601), hours(1, 1, 600, 700)]
        self.assertEqual(last(*calls, common(0, 1440, [0, 1])), [1, 600, 601])

    def test_several_of_one_within_one_of_the_other(self):
        calls = mondays(2) + [busy(0, 100, 200, 1), busy(0, 300, 400, 1), busy(1, 0, 50, 1), busy(1, 250, 260, 1)]
        self.assertEqual(last(*calls, common(0, 500, [0, 1])), [4, 50, 100, 200, 250, 260, 300, 400, 500])

    def test_cut_to_the_window(self):
        calls = mondays(2) + [busy(0, 100, 200, 1)]
        self.assertEqual(last(*calls, common(50, 150, [0, 1])), [1, 50, 100])
        self.assertEqual(last(*calls, common(150, 201, [0, 1])), [1, 200, 201])
        self.assertEqual(last(*calls, common(50, 250, [0, 1])), [2, 50, 100, 200, 250])
        self.assertEqual(last(*calls, common(100, 200, [0, 1])), [0])

    def test_none_is_0_alone(self):
        self.assertEqual(last(*mondays(2), person(0), common(0, ALL, [0, 1, 2])), [0])
        self.assertEqual(last(*mondays(2), common(1440, 10080, [0, 1])), [0])

    def test_just_30_are_told_all(self):
        calls = [person(0), person(0), *week(0, 0, 10), *week(1, 5, 20)]
        told = last(*calls, common(0, 30 * 1440, [0, 1]))
        self.assertEqual(told, [30] + [end for day in range(30) for end in (day * 1440 + 5, day * 1440 + 10)])

    def test_of_more_than_30_the_first_30_are_told(self):
        calls = [person(0), person(0), *week(0, 0, 10), *week(1, 5, 20)]
        begun = [end for day in range(30) for end in (day * 1440 + 5, day * 1440 + 10)]
        self.assertEqual(last(*calls, common(0, 31 * 1440, [0, 1])), [31] + begun)
        self.assertEqual(last(*calls, common(0, ALL, [1, 0])), [100] + begun)


if __name__ == "__main__":
    unittest.main()
