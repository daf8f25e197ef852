import unittest

from line import ALL, ask, busy, drop, hours, last, minutes, mondays, off, person, sure, week


class MinutesTest(unittest.TestCase):
    def counted(self, a, b, *items):
        """What's counted of person 0, of two who work on Mondays, with what's busy as told."""
        return last(*mondays(2), *[busy(*item) for item in items], minutes(0, a, b))

    def test_nothing_busy(self):
        self.assertEqual(self.counted(0, 1440), [1440, 0, 0])
        self.assertEqual(self.counted(1400, 1500), [40, 0, 0])
        self.assertEqual(self.counted(1440, 10080), [0, 0, 0])
        self.assertEqual(self.counted(0, ALL), [15 * 1440, 0, 0])

    def test_one_without_hours(self):
        self.assertEqual(last(person(0), busy(0, 0, 50, 1), busy(0, 60, 90, 0), minutes(0, 0, ALL)), [0, 0, 0])

    def test_perhaps(self):
        self.assertEqual(self.counted(0, 100, (0, 10, 30, 0)), [100, 20, 0])
        self.assertEqual(self.counted(0, 100, (0, 0, 100, 0)), [100, 100, 0])

    def test_for_sure(self):
        self.assertEqual(self.counted(0, 100, (0, 10, 30, 1)), [80, 0, 20])
        self.assertEqual(self.counted(0, 100, (0, 0, 100, 1)), [0, 0, 100])

    def test_perhaps_over_one_another(self):
        self.assertEqual(self.counted(0, 100, (0, 10, 30, 0), (0, 20, 40, 0)), [100, 30, 0])
        self.assertEqual(self.counted(0, 100, (0, 20, 30, 0), (0, 10, 40, 0), (0, 5, 15, 0)), [100, 35, 0])
        self.assertEqual(self.counted(0, 100, (0, 10, 30, 0), (0, 10, 30, 0)), [100, 20, 0])
        self.assertEqual(self.counted(0, 100, (0, 10, 30, 0), (0, 30, 40, 0), (0, 60, 70, 0)), [100, 40, 0])

    def test_for_sure_over_one_another(self):
        self.assertEqual(self.counted(0, 100, (0, 10, 30, 1), (0, 20, 40, 1)), [70, 0, 30])
        self.assertEqual(self.counted(0, 100, (0, 20, 30, 1), (0, 10, 40, 1), (0, 5, 15, 1)), [65, 0, 35])
        self.assertEqual(self.counted(0, 100, (0, 10, 30, 1), (0, 10, 30, 1)), [80, 0, 20])

    def test_perhaps_and_for_sure_over_one_another(self):
        self.assertEqual(self.counted(0, 100, (0, 10, 30, 0), (0, 20, 40, 1)), [80, 10, 20])
        self.assertEqual(self.counted(0, 100, (0, 20, 40, 1), (0, 10, 30, 0)), [80, 10, 20])
        self.assertEqual(self.counted(0, 100, (0, 10, 50, 0), (0, 20, 40, 1)), [80, 20, 20])
        self.assertEqual(self.counted(0, 100, (0, 20, 40, 0), (0, 10, 50, 1)), [60, 0, 40])
        self.assertEqual(self.counted(0, 100, (0, 10, 30, 0), (0, 10, 30, 1)), [80, 0, 20])
        self.assertEqual(self.counted(0, 100, (0, 10, 60, 0), (0, 20, 30, 1), (0, 25, 80, 0), (0, 40, 45, 1)),
                         [85, 55, 15])

    def test_outside_the_hours_of_work(self):
        calls = [person(0), hours(0, 1, 500, 600)]
        self.assertEqual(last(*calls, busy(0, 400, 500, 1), busy(0, 600, 700, 0), minutes(0, 0, 1440)), [100, 0, 0])
        self.assertEqual(last(*calls, busy(0, 400, 510, 1), busy(0, 580, 700, 0), minutes(0, 0, 1440)),
                         [90, 20, 10])
        self.assertEqual(last(*calls, busy(0, 0, 1440, 1), busy(0, 0, 1440, 0), minutes(0, 0, 1440)), [0, 0, 100])
        self.assertEqual(last(*calls, busy(0, 0, 1440, 0), minutes(0, 0, 1440)), [100, 100, 0])

    def test_over_the_windows_ends(self):
        self.assertEqual(self.counted(100, 200, (0, 50, 120, 1), (0, 170, 300, 0)), [80, 30, 20])
        self.assertEqual(self.counted(100, 200, (0, 50, 120, 0), (0, 170, 300, 1)), [70, 20, 30])
        self.assertEqual(self.counted(100, 200, (0, 0, 1000, 0)), [100, 100, 0])
        self.assertEqual(self.counted(100, 200, (0, 0, 1000, 1)), [0, 0, 100])
        self.assertEqual(self.counted(100, 200, (0, 0, 100, 1), (0, 200, 300, 0)), [100, 0, 0])
        self.assertEqual(self.counted(100, 200, (0, 200, 300, 1), (0, 0, 100, 0)), [100, 0, 0])

    def test_what_is_busy_of_others_counts_nothing(self):
        self.assertEqual(self.counted(0, 100, (1, 10, 30, 0), (1, 50, 90, 1)), [100, 0, 0])

    def test_each_person_by_themselves(self):
        told = ask(*mondays(2), busy(0, 10, 30, 1), busy(1, 20, 50, 0), minutes(0, 0, 100), minutes(1, 0, 100))
        self.assertEqual(told[-2:], [[80, 0, 20], [100, 30, 0]])

    def test_over_the_hours_of_several_days(self):
        calls = [person(-60), *week(0, 540, 600), busy(0, 0, 2070, 0), busy(0, 2055, 3600, 1)]
        self.assertEqual(last(*calls, minutes(0, 0, 4320)), [75, 75, 105])
        self.assertEqual(last(*calls, minutes(0, 0, 5760)), [135, 75, 105])

    def test_day_off(self):
        calls = mondays(1) + [busy(0, 0, 10, 1), busy(0, 20, 50, 0)]
        self.assertEqual(last(*calls, minutes(0, 0, 10080)), [1430, 30, 10])
        self.assertEqual(last(*calls, off(0, 0), minutes(0, 0, 10080)), [0, 0, 0])
        self.assertEqual(last(*calls, off(0, 0), off(0, 0), minutes(0, 0, 10080)), [1430, 30, 10])

    def test_dropped_or_turned_since(self):
        calls = mondays(1) + [busy(0, 0, 10, 1), busy(0, 20, 50, 0)]
        self.assertEqual(last(*calls, sure(0), minutes(0, 0, 100)), [100, 40, 0])
        self.assertEqual(last(*calls, sure(1), minutes(0, 0, 100)), [60, 0, 40])
        self.assertEqual(last(*calls, drop(0), minutes(0, 0, 100)), [100, 30, 0])
        self.assertEqual(last(*calls, drop(1), minutes(0, 0, 100)), [90, 0, 10])


class MinutesRefusedTest(unittest.TestCase):
    def test_nobody_of_that_number_ahead_of_all_else(self):
        self.assertEqual(ask(minutes(0, 0, 10), minutes(0, 10, 10), minutes(0, 0, ALL + 1)), [[-3]] * 3)
        self.assertEqual(ask(person(0), minutes(1, 0, 10), minutes(1, 10, 10), minutes(99, 0, ALL + 1))[1:],
                         [[-3]] * 3)

    def test_no_window(self):
        for a, b in ((0, 0), (10, 10), (11, 10), (0, ALL + 1), (ALL, ALL), (ALL, ALL + 1)):
            self.assertEqual(last(person(0), *week(0, 0, 1440), minutes(0, a, b)), [-1])


if __name__ == "__main__":
    unittest.main()
