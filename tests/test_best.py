import unittest

from line import ALL, best, busy, drop, hours, last, mondays, off, person, sure, week


class BestTest(unittest.TestCase):
    def asked(self, long, a, b, *items):
        """What's best for the persons 0 and 1, of three who work on Mondays, with what's busy as told."""
        return last(*mondays(3), *[busy(*item) for item in items], best(long, a, b, [0, 1]))

    def test_nothing_busy(self):
        self.assertEqual(self.asked(10, 0, 1440), [0, 0])
        self.assertEqual(self.asked(10, 77, 1440), [77, 0])

    def test_the_fewest_minutes(self):
        self.assertEqual(self.asked(50, 0, 100, (0, 0, 60, 0)), [50, 10])
        self.assertEqual(self.asked(50, 0, 100, (0, 40, 100, 0)), [0, 10])
        self.assertEqual(self.asked(50, 0, 100, (0, 20, 80, 0)), [0, 30])
        self.assertEqual(self.asked(50, 0, 100, (0, 10, 80, 0)), [50, 30])

    def test_of_several_the_first(self):
        self.assertEqual(self.asked(50, 0, 200, (0, 0, 60, 0)), [60, 0])
        self.assertEqual(self.asked(50, 0, 100, (0, 0, 100, 0)), [0, 50])
        self.assertEqual(self.asked(10, 0, 100, (0, 0, 20, 0), (0, 40, 50, 0)), [20, 0])
        self.assertEqual(self.asked(30, 0, 100, (0, 25, 35, 0), (0, 60, 70, 0)), [70, 0])
        self.assertEqual(self.asked(40, 0, 100, (0, 25, 35, 0), (0, 60, 70, 0)), [0, 10])

    def test_within_a_stretch_where_what_may_be_ends(self):
        self.assertEqual(self.asked(20, 0, 1440, (0, 0, 33, 0)), [33, 0])
        self.assertEqual(self.asked(20, 10, 60, (0, 0, 33, 0)), [33, 0])

    def test_within_a_stretch_so_that_it_ends_where_what_may_be_begins(self):
        self.assertEqual(self.asked(20, 0, 100, (0, 0, 10, 0), (0, 27, 100, 0)), [7, 3])
        self.assertEqual(self.asked(20, 0, 100, (0, 0, 10, 0), (1, 0, 10, 0), (0, 27, 100, 0)), [10, 3])

    def test_at_the_end_of_a_stretch(self):
        self.assertEqual(self.asked(20, 0, 100, (0, 0, 90, 0)), [80, 10])
        self.assertEqual(self.asked(20, 0, 100, (0, 0, 99, 0)), [80, 19])

    def test_over_one_another_each_minute_of_a_person_counts_once(self):
        self.assertEqual(self.asked(100, 0, 100, (0, 10, 30, 0), (0, 20, 40, 0)), [0, 30])
        self.assertEqual(self.asked(100, 0, 100, (0, 20, 40, 0), (0, 10, 30, 0)), [0, 30])
        self.assertEqual(self.asked(100, 0, 100, (0, 10, 40, 0), (0, 20, 30, 0)), [0, 30])
        self.assertEqual(self.asked(100, 0, 100, (0, 20, 30, 0), (0, 10, 40, 0), (0, 20, 30, 0)), [0, 30])
        self.assertEqual(self.asked(100, 0, 100, (0, 10, 40, 0), (0, 10, 20, 0), (0, 35, 50, 0)), [0, 40])
        self.assertEqual(self.asked(100, 0, 100, (0, 10, 20, 0), (0, 20, 30, 0)), [0, 20])

    def test_once_for_each_person(self):
        self.assertEqual(self.asked(100, 0, 100, (0, 10, 30, 0), (1, 20, 40, 0)), [0, 40])
        self.assertEqual(self.asked(100, 0, 100, (0, 10, 30, 0), (1, 10, 30, 0), (1, 10, 30, 0)), [0, 40])

    def test_two_persons_minute_counts_more_than_one_persons(self):
        items = ((0, 0, 50, 0), (1, 0, 50, 0), (0, 50, 100, 0), (0, 50, 100, 0), (0, 50, 100, 0))
        self.assertEqual(self.asked(50, 0, 100, *items), [50, 50])

    def test_what_is_busy_of_others_counts_nothing(self):
        self.assertEqual(self.asked(50, 0, 100, (2, 0, 60, 0)), [0, 0])
        self.assertEqual(self.asked(50, 0, 100, (2, 0, 60, 1)), [0, 0])
        self.assertEqual(self.asked(50, 0, 100, (2, 0, 60, 0), (1, 90, 100, 0)), [0, 0])

    def test_what_is_busy_for_sure_is_not_free_and_counts_nothing(self):
        self.assertEqual(self.asked(50, 0, 200, (0, 0, 60, 1)), [60, 0])
        self.assertEqual(self.asked(50, 0, 200, (0, 0, 60, 1), (0, 0, 200, 0)), [60, 50])
        self.assertEqual(self.asked(50, 0, 200, (0, 40, 60, 1), (1, 60, 170, 0)), [150, 20])
        self.assertEqual(self.asked(40, 0, 200, (0, 40, 60, 1), (1, 0, 10, 0), (1, 60, 195, 0)), [0, 10])

    def test_of_several_stretches_the_one_that_takes_least(self):
        items = ((0, 100, 110, 1), (1, 200, 210, 1), (0, 0, 100, 0), (1, 110, 190, 0), (0, 210, 1440, 0))
        self.assertEqual(self.asked(50, 0, 1440, *items), [150, 40])
        self.assertEqual(self.asked(50, 0, 1440, *items, (0, 150, 200, 0)), [0, 50])
        self.assertEqual(self.asked(95, 0, 1440, *items), [0, 95])
        self.assertEqual(self.asked(101, 0, 1440, *items), [210, 101])

    def test_outside_the_hours_nothing_is_taken(self):
        calls = [person(0), person(0), hours(0, 1, 500, 600), hours(1, 1, 0, 1440), busy(0, 0, 500, 0),
                 busy(0, 600, 2000, 0), busy(1, 0, 500, 0), busy(1, 600, 2000, 0)]
        self.assertEqual(last(*calls, best(100, 0, 1440, [0, 1])), [500, 0])
        self.assertEqual(last(*calls, best(40, 0, 1440, [0, 1])), [500, 0])
        self.assertEqual(last(*calls, busy(0, 480, 510, 0), best(95, 0, 1440, [0, 1])), [505, 5])

    def test_over_the_windows_ends(self):
        self.assertEqual(self.asked(50, 100, 200, (0, 0, 120, 0), (0, 160, 400, 0)), [110, 10])
        self.assertEqual(self.asked(100, 100, 200, (0, 0, 120, 0), (1, 160, 400, 0)), [100, 60])
        self.assertEqual(self.asked(100, 100, 200, (0, 0, 1000, 0)), [100, 100])
        self.assertEqual(self.asked(100, 100, 200, (0, 0, 100, 0), (0, 200, 300, 0)), [100, 0])

    def test_dropped_or_for_sure_since(self):
        calls = mondays(1) + [busy(0, 0, 60, 0)]
        self.assertEqual(last(*calls, best(50, 0, 100, [0])), [50, 10])
        self.assertEqual(last(*calls, drop(0), best(50, 0, 100, [0])), [0, 0])
        self.assertEqual(last(*calls, sure(0), best(50, 0, 100, [0])), [-6])
        self.assertEqual(last(*calls, sure(0), best(40, 0, 100, [0])), [60, 0])
        self.assertEqual(last(*calls, sure(0), sure(0), best(50, 0, 100, [0])), [50, 10])

    def test_the_longest(self):
        calls = [person(0), *week(0, 0, 1440), busy(0, 0, ALL, 0)]
        self.assertEqual(last(*calls, best(ALL, 0, ALL, [0])), [0, ALL])
        self.assertEqual(last(*calls, best(ALL + 1, 0, ALL, [0])), [-6])
        self.assertEqual(last(*calls, best(1, ALL - 1, ALL, [0])), [ALL - 1, 1])


class BestRefusedTest(unittest.TestCase):
    def test_none(self):
        self.assertEqual(last(person(0), best(1, 0, ALL, [0])), [-6])
        self.assertEqual(last(*mondays(2), off(1, 0), best(1, 0, 9000, [0, 1])), [-6])
        self.assertEqual(last(*mondays(1), best(100, 50, 150, [0])), [50, 0])
        self.assertEqual(last(*mondays(1), best(101, 50, 150, [0])), [-6])
        self.assertEqual(last(*mondays(1), best(1440, 0, 9000, [0])), [0, 0])
        self.assertEqual(last(*mondays(1), best(1441, 0, 9000, [0])), [-6])

    def test_no_length_ahead_of_none(self):
        self.assertEqual(last(*mondays(1), best(0, 0, 1440, [0])), [-1])
        self.assertEqual(last(person(0), best(0, 0, 1440, [0])), [-1])
        self.assertEqual(last(person(0), best(9, 10, 10, [0])), [-1])


if __name__ == "__main__":
    unittest.main()
