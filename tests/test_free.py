import unittest

from line import ALL, ask, busy, free, hours, last, off, person, week

ALWAYS = [person(0)] + week(0, 0, 1440)


class FreeStretchesTest(unittest.TestCase):
    def test_the_hours_of_work_in_order(self):
        told = last(person(0), hours(0, 2, 600, 700), hours(0, 1, 540, 1020), free(0, 0, 10080))
        self.assertEqual(told, [2, 540, 1020, 2040, 2140])

    def test_by_the_persons_clock(self):
        self.assertEqual(last(person(90), hours(0, 2, 600, 700), free(0, 0, 10080)), [1, 1950, 2050])
        self.assertEqual(last(person(-90), hours(0, 2, 600, 700), free(0, 0, 10080)), [1, 2130, 2230])

    def test_day_minus_1_is_a_sunday_and_day_100_a_wednesday(self):
        self.assertEqual(last(person(-840), hours(0, 7, 590, 630), free(0, 0, 1440)), [1, 0, 30])
        self.assertEqual(last(person(840), hours(0, 3, 820, 900), free(0, ALL - 1440, ALL)), [1, ALL - 20, ALL])

    def test_over_midnight_it_is_one(self):
        told = last(person(0), hours(0, 1, 1200, 1440), hours(0, 2, 0, 300), free(0, 0, 10080))
        self.assertEqual(told, [1, 1200, 1740])

    def test_over_sunday_midnight_it_is_one(self):
        told = last(person(0), hours(0, 7, 1200, 1440), hours(0, 1, 0, 300), free(0, 1440, 15840))
        self.assertEqual(told, [1, 9840, 10380])

    def test_all_days_are_one(self):
        self.assertEqual(last(*ALWAYS, free(0, 0, ALL)), [1, 0, ALL])

    def test_a_minute_apart_they_are_two(self):
        told = last(person(0), hours(0, 1, 1200, 1439), hours(0, 2, 0, 300), free(0, 0, 10080))
        self.assertEqual(told, [2, 1200, 1439, 1440, 1740])
        told = last(person(0), hours(0, 1, 1200, 1440), hours(0, 2, 1, 300), free(0, 0, 10080))
        self.assertEqual(told, [2, 1200, 1440, 1441, 1740])

    def test_none_is_0_alone(self):
        self.assertEqual(last(person(0), free(0, 0, ALL)), [0])
        self.assertEqual(last(person(0), hours(0, 1, 540, 600), free(0, 600, 1440)), [0])
        self.assertEqual(last(*ALWAYS, busy(0, 0, ALL, 1), free(0, 0, ALL)), [0])
        self.assertEqual(last(person(0), hours(0, 1, 540, 600), off(0, 0), free(0, 0, 1440)), [0])

    def test_cut_to_the_window(self):
        work = [person(0), hours(0, 1, 540, 600)]
        self.assertEqual(last(*work, free(0, 550, 560)), [1, 550, 560])
        self.assertEqual(last(*work, free(0, 0, 541)), [1, 540, 541])
        self.assertEqual(last(*work, free(0, 599, 700)), [1, 599, 600])
        self.assertEqual(last(*work, free(0, 540, 600)), [1, 540, 600])
        self.assertEqual(last(*work, free(0, 0, 540)), [0])
        self.assertEqual(last(*work, free(0, 600, 700)), [0])

    def test_one_moment_alone(self):
        self.assertEqual(last(*ALWAYS, free(0, 0, 1)), [1, 0, 1])
        self.assertEqual(last(*ALWAYS, free(0, ALL - 1, ALL)), [1, ALL - 1, ALL])

    def test_just_30_are_told_all(self):
        told = last(person(0), *week(0, 0, 10), free(0, 0, 30 * 1440))
        self.assertEqual(told, [30] + [end for day in range(30) for end in (day * 1440, day * 1440 + 10)])

    def test_of_more_than_30_the_first_30_are_told(self):
        first = [end for day in range(30) for end in (day * 1440, day * 1440 + 10)]
        self.assertEqual(last(person(0), *week(0, 0, 10), free(0, 0, 31 * 1440)), [31] + first)
        self.assertEqual(last(person(0), *week(0, 0, 10), free(0, 0, ALL)), [100] + first)


class FreeAndBusyTest(unittest.TestCase):
    def left(self, *items):
        return last(*ALWAYS, *[busy(0, *item) for item in items], free(0, 0, 100))

    def test_perhaps_takes_nothing(self):
        self.assertEqual(self.left((10, 20, 0)), [1, 0, 100])

    def test_for_sure_takes_its_moments(self):
        self.assertEqual(self.left((10, 20, 1)), [2, 0, 10, 20, 100])
        self.assertEqual(self.left((10, 11, 1)), [2, 0, 10, 11, 100])

    def test_at_the_ends_of_the_window(self):
        self.assertEqual(self.left((0, 20, 1)), [1, 20, 100])
        self.assertEqual(self.left((90, 100, 1)), [1, 0, 90])
        self.assertEqual(self.left((90, 2000, 1)), [1, 0, 90])
        self.assertEqual(self.left((100, 200, 1)), [1, 0, 100])
        self.assertEqual(self.left((0, 100, 1)), [0])

    def test_several_over_one_another(self):
        self.assertEqual(self.left((10, 30, 1), (20, 40, 1)), [2, 0, 10, 40, 100])
        self.assertEqual(self.left((20, 40, 1), (10, 30, 1)), [2, 0, 10, 40, 100])
        self.assertEqual(self.left((10, 40, 1), (20, 30, 1)), [2, 0, 10, 40, 100])
        self.assertEqual(self.left((20, 30, 1), (10, 40, 1)), [2, 0, 10, 40, 100])
        self.assertEqual(self.left((10, 20, 1), (10, 20, 1)), [2, 0, 10, 20, 100])

    def test_several_that_touch(self):
        self.assertEqual(self.left((10, 20, 1), (20, 30, 1)), [2, 0, 10, 30, 100])
        self.assertEqual(self.left((20, 30, 1), (10, 20, 1)), [2, 0, 10, 30, 100])

    def test_a_minute_between_two_is_free(self):
        self.assertEqual(self.left((10, 20, 1), (21, 30, 1)), [3, 0, 10, 20, 21, 30, 100])

    def test_perhaps_over_for_sure(self):
        self.assertEqual(self.left((5, 50, 0), (10, 20, 1)), [2, 0, 10, 20, 100])

    def test_in_order_whatever_came_first(self):
        self.assertEqual(self.left((70, 80, 1), (10, 20, 1), (40, 50, 1)),
                         [4, 0, 10, 20, 40, 50, 70, 80, 100])

    def test_only_their_own_takes_something(self):
        told = ask(*ALWAYS, person(0), *week(1, 0, 1440), busy(0, 10, 20, 1), busy(1, 30, 40, 1),
                   free(0, 0, 100), free(1, 0, 100))
        self.assertEqual(told[-2:], [[2, 0, 10, 20, 100], [2, 0, 30, 40, 100]])

    def test_what_is_busy_is_by_moments_not_by_the_clock(self):
        told = last(person(300), *week(0, 0, 1440), busy(0, 10, 20, 1), free(0, 0, 100))
        self.assertEqual(told, [2, 0, 10, 20, 100])

    def test_over_the_hours_of_several_days(self):
        told = last(person(0), *week(0, 540, 600), busy(0, 570, 3440, 1), free(0, 0, 4320))
        self.assertEqual(told, [2, 540, 570, 3440, 3480])

    def test_more_than_30_pieces(self):
        items = [busy(0, 10 * k, 10 * k + 1, 1) for k in range(40)]
        told = last(person(0), hours(0, 1, 0, 400), *items, free(0, 0, 1440))
        self.assertEqual(told, [40] + [end for k in range(30) for end in (10 * k + 1, 10 * k + 10)])


class FreeRefusedTest(unittest.TestCase):
    def test_windows_that_are_none(self):
        for a, b in ((0, 0), (10, 10), (11, 10), (ALL, ALL), (ALL, 0), (0, ALL + 1), (0, 150000),
                     (ALL, ALL + 1), (150000, 150000)):
            self.assertEqual(last(*ALWAYS, free(0, a, b)), [-1])

    def test_nobody_of_that_number_ahead_of_all_else(self):
        self.assertEqual(ask(free(0, 0, 10), free(0, 10, 10), free(0, 0, ALL + 1)), [[-3]] * 3)
        self.assertEqual(ask(person(0), free(1, 0, 10), free(1, 10, 10), free(99, 0, ALL + 1))[1:], [[-3]] * 3)

    def test_a_refusal_changes_nothing(self):
        for call in (free(0, 10, 10), free(0, 0, ALL + 1), free(1, 0, 10)):
            self.assertEqual(last(*ALWAYS, call, free(0, 0, ALL)), [1, 0, ALL])


class FreeChangesNothingTest(unittest.TestCase):
    def test_asked_twice_it_is_the_same(self):
        told = ask(*ALWAYS, busy(0, 10, 20, 1), free(0, 0, 15), free(0, 0, 100), free(0, 0, 100))
        self.assertEqual(told[-3:], [[1, 0, 10], [2, 0, 10, 20, 100], [2, 0, 10, 20, 100]])


if __name__ == "__main__":
    unittest.main()
