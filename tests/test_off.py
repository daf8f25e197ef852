import unittest

from line import ALL, ask, free, hours, last, off, person, week


class OffTest(unittest.TestCase):
    def test_off_and_on_again(self):
        self.assertEqual(ask(person(0), off(0, 3), off(0, 3), off(0, 3))[1:], [[1], [0], [1]])

    def test_each_day_and_each_person_by_themselves(self):
        told = ask(person(0), person(0), off(0, 3), off(0, 4), off(1, 3), off(0, 3), off(0, 4))
        self.assertEqual(told[2:], [[1], [1], [1], [0], [0]])

    def test_the_first_and_the_last_day_are_taken(self):
        self.assertEqual(ask(person(0), off(0, -1), off(0, 100), off(0, -1), off(0, 100))[1:],
                         [[1], [1], [0], [0]])

    def test_days_that_are_none_are_refused(self):
        told = ask(person(0), off(0, -2), off(0, 101), off(0, -200), off(0, 200))
        self.assertEqual(told[1:], [[-1]] * 4)

    def test_nobody_of_that_number_ahead_of_all_else(self):
        self.assertEqual(ask(off(0, 0), off(0, -2), off(0, 101)), [[-3]] * 3)
        self.assertEqual(ask(person(0), off(1, 0), off(1, 101), off(99, -200))[1:], [[-3]] * 3)

    def test_a_day_off_is_by_the_persons_clock(self):
        calls = week(0, 0, 1440) + [off(0, 1), free(0, 0, ALL)]
        self.assertEqual(last(person(0), *calls), [2, 0, 1440, 2880, ALL])
        self.assertEqual(last(person(60), *calls), [2, 0, 1380, 2820, ALL])
        self.assertEqual(last(person(-60), *calls), [2, 0, 1500, 2940, ALL])

    def test_the_first_and_the_last_day_off_take_their_moments(self):
        told = last(person(-840), *week(0, 0, 1440), off(0, -1), free(0, 0, ALL))
        self.assertEqual(told, [1, 840, ALL])
        told = last(person(840), *week(0, 0, 1440), off(0, 100), free(0, 0, ALL))
        self.assertEqual(told, [1, 0, ALL - 840])

    def test_hours_are_there_when_the_day_is_on_again(self):
        told = last(person(0), hours(0, 1, 10, 20), off(0, 0), off(0, 0), free(0, 0, 1440))
        self.assertEqual(told, [1, 10, 20])

    def test_a_refusal_changes_nothing(self):
        for call in (off(0, -2), off(0, 101), off(1, 0)):
            told = ask(person(0), *week(0, 0, 1440), call, free(0, 0, ALL), off(0, 0))
            self.assertEqual(told[-2:], [[1, 0, ALL], [1]])


if __name__ == "__main__":
    unittest.main()
