import unittest

from line import ALL, ask, busy, free, hours, last, off, person, week


class HoursCountTest(unittest.TestCase):
    def test_an_even_clock(self):
        # 100 days from a Monday on: 15 Mondays and 15 Tuesdays, 14 of each other weekday.
        for weekday in range(1, 8):
            days = 15 if weekday <= 2 else 14
            self.assertEqual(last(person(0), hours(0, weekday, 540, 1020)), [days * 480])

    def test_a_clock_ahead_begins_within_day_0_and_ends_within_day_100(self):
        # 840 ahead: of day 0 only the minutes from 840 on, of day 100 (a Wednesday) those before 840.
        self.assertEqual(last(person(840), hours(0, 1, 0, 1440)), [14 * 1440 + 600])
        self.assertEqual(last(person(840), hours(0, 3, 0, 1440)), [14 * 1440 + 840])
        self.assertEqual(last(person(840), hours(0, 3, 830, 850)), [14 * 20 + 10])
        self.assertEqual(last(person(840), hours(0, 1, 0, 840)), [14 * 840])

    def test_a_clock_behind_begins_within_day_minus_1_and_ends_within_day_99(self):
        # 840 behind: of day -1 (a Sunday) the last 840 minutes, of day 99 (a Tuesday) the first 600.
        self.assertEqual(last(person(-840), hours(0, 7, 0, 1440)), [14 * 1440 + 840])
        self.assertEqual(last(person(-840), hours(0, 7, 590, 610)), [14 * 20 + 10])
        self.assertEqual(last(person(-840), hours(0, 2, 0, 1440)), [14 * 1440 + 600])
        self.assertEqual(last(person(-840), hours(0, 2, 600, 1440)), [14 * 840])

    def test_a_minute_ahead_and_a_minute_behind(self):
        self.assertEqual(last(person(1), hours(0, 3, 0, 1)), [14 + 1])
        self.assertEqual(last(person(1), hours(0, 1, 0, 1)), [14])
        self.assertEqual(last(person(-1), hours(0, 7, 1439, 1440)), [14 + 1])
        self.assertEqual(last(person(-1), hours(0, 2, 1439, 1440)), [14])

    def test_all_hours_of_all_days_are_all_moments(self):
        for ahead in (-840, -61, 0, 330, 840):
            self.assertEqual(last(person(ahead), *week(0, 0, 1440)), [ALL])

    def test_weekdays_add_up(self):
        told = ask(person(0), hours(0, 1, 0, 10), hours(0, 3, 100, 120), hours(0, 7, 1439, 1440))
        self.assertEqual(told[1:], [[150], [150 + 280], [150 + 280 + 14]])

    def test_days_off_do_not_count(self):
        told = last(person(0), off(0, 0), off(0, 98), off(0, 1), hours(0, 1, 60, 120))
        self.assertEqual(told, [13 * 60])

    def test_day_minus_1_and_day_100_off(self):
        self.assertEqual(last(person(-840), off(0, -1), hours(0, 7, 0, 1440)), [14 * 1440])
        self.assertEqual(last(person(840), off(0, 100), hours(0, 3, 0, 1440)), [14 * 1440])
        # Days that this clock never shows take nothing.
        self.assertEqual(last(person(0), off(0, -1), off(0, 100), *week(0, 0, 1440)), [ALL])
        self.assertEqual(last(person(840), off(0, -1), *week(0, 0, 1440)), [ALL])
        self.assertEqual(last(person(-840), off(0, 100), *week(0, 0, 1440)), [ALL])

    def test_a_day_on_again_counts_again(self):
        self.assertEqual(last(person(0), off(0, 7), off(0, 7), hours(0, 1, 0, 10)), [150])

    def test_what_is_busy_does_not_count(self):
        self.assertEqual(last(person(0), busy(0, 0, ALL, 1), hours(0, 1, 0, 10)), [150])

    def test_each_person_by_themselves(self):
        told = ask(person(0), person(0), hours(0, 1, 0, 10), hours(1, 1, 0, 20), hours(0, 2, 0, 1))
        self.assertEqual(told[2:], [[150], [300], [165]])


class HoursAnewTest(unittest.TestCase):
    def test_later_hours_take_the_place_of_earlier_ones(self):
        calls = [person(0), hours(0, 1, 540, 600), hours(0, 1, 660, 690), free(0, 0, 1440)]
        self.assertEqual(ask(*calls)[1:], [[900], [450], [1, 660, 690]])

    def test_begin_and_end_alike_is_none(self):
        for minute in (0, 1, 720, 1440):
            told = ask(person(0), hours(0, 1, 0, 1440), hours(0, 1, minute, minute), free(0, 0, ALL))
            self.assertEqual(told[2:], [[0], [0]])

    def test_the_whole_day_is_taken(self):
        self.assertEqual(ask(person(0), hours(0, 1, 0, 1440), free(0, 0, 10000))[1:],
                         [[15 * 1440], [1, 0, 1440]])


class HoursRefusedTest(unittest.TestCase):
    def test_no_such_weekday(self):
        for weekday in (0, 8, 9):
            self.assertEqual(last(person(0), hours(0, weekday, 0, 10)), [-1])

    def test_end_above_1440(self):
        self.assertEqual(last(person(0), hours(0, 1, 0, 1441)), [-1])
        self.assertEqual(last(person(0), hours(0, 1, 1441, 1441)), [-1])
        self.assertEqual(last(person(0), hours(0, 1, 2000, 2000)), [-1])

    def test_end_below_begin(self):
        self.assertEqual(last(person(0), hours(0, 1, 601, 600)), [-1])
        self.assertEqual(last(person(0), hours(0, 1, 2000, 0)), [-1])

    def test_nobody_of_that_number_ahead_of_all_else(self):
        self.assertEqual(ask(hours(0, 1, 0, 10), person(0), hours(1, 1, 0, 10), hours(99, 1, 0, 10)),
                         [[-3], [0], [-3], [-3]])
        self.assertEqual(ask(hours(0, 0, 0, 10), hours(0, 1, 0, 1441), hours(0, 1, 2, 1)),
                         [[-3], [-3], [-3]])

    def test_a_refusal_changes_nothing(self):
        refused = [hours(0, 0, 0, 10), hours(0, 8, 0, 10), hours(0, 1, 0, 1441), hours(0, 1, 20, 10),
                   hours(1, 1, 0, 10)]
        for call in refused:
            told = last(person(0), hours(0, 1, 60, 120), hours(0, 7, 60, 120), call, free(0, 0, 10080))
            self.assertEqual(told, [2, 60, 120, 6 * 1440 + 60, 6 * 1440 + 120])


if __name__ == "__main__":
    unittest.main()
