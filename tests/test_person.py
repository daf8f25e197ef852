import unittest

from line import ALL, ask, free, hours, last, off, person


class PersonTest(unittest.TestCase):
    def test_numbers_in_order(self):
        self.assertEqual(ask(person(0), person(60), person(-60)), [[0], [1], [2]])

    def test_the_farthest_clocks_are_taken(self):
        self.assertEqual(ask(person(-840), person(840)), [[0], [1]])

    def test_farther_clocks_are_refused(self):
        told = ask(person(-841), person(841), person(-2000), person(2000), person(0))
        self.assertEqual(told, [[-1], [-1], [-1], [-1], [0]])

    def test_the_ninth_is_refused(self):
        told = ask(*[person(0)] * 10)
        self.assertEqual(told, [[k] for k in range(8)] + [[-5], [-5]])

    def test_a_wrong_clock_is_told_ahead_of_too_many(self):
        eight = [person(0)] * 8
        self.assertEqual(last(*eight, person(841)), [-1])
        self.assertEqual(last(*eight, person(-841)), [-1])

    def test_a_new_person_has_no_hours(self):
        self.assertEqual(last(person(0), free(0, 0, ALL)), [0])
        self.assertEqual(last(person(0), hours(0, 1, 0, 0)), [0])

    def test_a_new_person_has_no_hours_of_an_earlier_one(self):
        self.assertEqual(last(person(0), hours(0, 1, 0, 60), person(0), free(1, 0, ALL)), [0])

    def test_a_new_person_has_no_day_off(self):
        for day in range(-1, 101, 30):
            self.assertEqual(last(person(0), off(0, day)), [1])
        self.assertEqual(last(person(0), off(0, 5), person(0), off(1, 5)), [1])


if __name__ == "__main__":
    unittest.main()
