import unittest

from line import ALL, ask, busy, drop, free, last, person, sure, week


class BusyTest(unittest.TestCase):
    def test_numbers_in_order_over_all_people(self):
        told = ask(person(0), person(0), busy(0, 0, 10, 1), busy(1, 0, 10, 0), busy(0, 0, 10, 1))
        self.assertEqual(told[2:], [[0], [1], [2]])

    def test_numbers_are_not_used_again(self):
        told = ask(person(0), busy(0, 0, 1, 1), busy(0, 0, 1, 1), drop(1), busy(0, 0, 1, 1), drop(0),
                   drop(2), busy(0, 0, 1, 1))
        self.assertEqual(told[1:], [[0], [1], [1], [2], [1], [0], [3]])

    def test_the_longest_and_the_shortest_are_taken(self):
        told = ask(person(0), busy(0, 0, ALL, 1), busy(0, ALL - 1, ALL, 0), busy(0, 0, 1, 1))
        self.assertEqual(told[1:], [[0], [1], [2]])

    def test_what_is_no_stretch_is_refused(self):
        wrong = [(0, ALL + 1), (0, 150000), (149999, 150000), (ALL, ALL), (10, 10), (0, 0), (10, 9), (ALL, 0)]
        for begin, end in wrong:
            for sort in (0, 1):
                self.assertEqual(last(person(0), busy(0, begin, end, sort)), [-1])

    def test_neither_0_nor_1_is_refused(self):
        for sort in range(2, 10):
            self.assertEqual(last(person(0), busy(0, 0, 10, sort)), [-1])

    def test_more_than_50_are_refused(self):
        told = ask(person(0), *[busy(0, 5, 6, 1)] * 52)
        self.assertEqual(told[1:], [[k] for k in range(50)] + [[-5], [-5]])

    def test_50_are_counted_over_all_people(self):
        told = ask(person(0), person(0), *[busy(0, 5, 6, 1), busy(1, 5, 6, 0)] * 25, busy(1, 5, 6, 0))
        self.assertEqual(told[2:], [[k] for k in range(50)] + [[-5]])

    def test_after_a_drop_there_is_room_again(self):
        told = ask(person(0), *[busy(0, 5, 6, 1)] * 51, drop(7), busy(0, 5, 6, 0), busy(0, 5, 6, 0))
        self.assertEqual(told[50:], [[49], [-5], [49], [50], [-5]])

    def test_the_order_of_the_refusals(self):
        full = [person(0)] + [busy(0, 5, 6, 1)] * 50
        for wrong in ((0, ALL + 1, 1), (10, 10, 1), (0, 10, 2)):
            self.assertEqual(last(*full, busy(0, *wrong)), [-1])
            self.assertEqual(last(*full, busy(1, *wrong)), [-3])
            self.assertEqual(last(person(0), busy(1, *wrong)), [-3])
            self.assertEqual(last(busy(0, *wrong)), [-3])
        self.assertEqual(last(*full, busy(1, 0, 10, 1)), [-3])
        self.assertEqual(last(*full, busy(0, 0, 10, 1)), [-5])

    def test_a_refusal_changes_nothing(self):
        for call in (busy(1, 0, 10, 1), busy(0, 0, ALL + 1, 1), busy(0, 10, 10, 1), busy(0, 20, 10, 1),
                     busy(0, 0, 10, 2)):
            told = ask(person(0), *week(0, 0, 1440), busy(0, 50, 60, 1), call, free(0, 0, 100),
                       busy(0, 0, 1, 0), drop(1))
            self.assertEqual(told[-3:], [[2, 0, 50, 60, 100], [1], [1]])

    def test_the_refusal_of_one_too_many_changes_nothing(self):
        told = ask(person(0), hours_on_monday(), *[busy(0, 5, 6, 1)] * 50, busy(0, 20, 30, 1),
                   free(0, 0, 100), drop(50), drop(0))
        self.assertEqual(told[-4:], [[-5], [2, 0, 5, 6, 100], [-4], [49]])


def hours_on_monday():
    return week(0, 0, 1440)[0]


class DropTest(unittest.TestCase):
    def test_how_many_are_left(self):
        told = ask(person(0), *[busy(0, 0, 1, 1)] * 3, drop(1), drop(0), drop(2))
        self.assertEqual(told[4:], [[2], [1], [0]])

    def test_what_was_dropped_takes_nothing_any_more(self):
        told = ask(person(0), hours_on_monday(), busy(0, 10, 20, 1), busy(0, 30, 40, 1), drop(0),
                   free(0, 0, 100), drop(1), free(0, 0, 100))
        self.assertEqual(told[4:], [[1], [2, 0, 30, 40, 100], [0], [1, 0, 100]])

    def test_a_number_that_never_was(self):
        self.assertEqual(ask(drop(0), drop(99)), [[-4], [-4]])
        self.assertEqual(ask(person(0), busy(0, 0, 1, 1), drop(1), drop(99))[2:], [[-4], [-4]])

    def test_a_number_that_was_dropped(self):
        told = ask(person(0), busy(0, 0, 1, 1), busy(0, 0, 1, 1), drop(0), drop(0), drop(1), drop(1))
        self.assertEqual(told[3:], [[1], [-4], [0], [-4]])


class SureTest(unittest.TestCase):
    def test_to_perhaps_and_back(self):
        self.assertEqual(ask(person(0), busy(0, 0, 1, 1), sure(0), sure(0), sure(0))[2:], [[0], [1], [0]])
        self.assertEqual(ask(person(0), busy(0, 0, 1, 0), sure(0), sure(0), sure(0))[2:], [[1], [0], [1]])

    def test_it_takes_the_moments_just_while_it_is_for_sure(self):
        look = free(0, 0, 100)
        told = ask(person(0), hours_on_monday(), busy(0, 10, 20, 1), look, sure(0), look, sure(0), look)
        self.assertEqual(told[3:], [[2, 0, 10, 20, 100], [0], [1, 0, 100], [1], [2, 0, 10, 20, 100]])

    def test_others_stay_as_they_are(self):
        told = ask(person(0), hours_on_monday(), busy(0, 10, 20, 1), busy(0, 30, 40, 0), sure(1),
                   free(0, 0, 100), sure(0), free(0, 0, 100))
        self.assertEqual(told[4:], [[1], [3, 0, 10, 20, 30, 40, 100], [0], [2, 0, 30, 40, 100]])

    def test_a_number_that_never_was(self):
        self.assertEqual(ask(sure(0), sure(99)), [[-4], [-4]])
        self.assertEqual(ask(person(0), busy(0, 0, 1, 1), sure(1), sure(99))[2:], [[-4], [-4]])

    def test_a_number_that_was_dropped(self):
        told = ask(person(0), busy(0, 0, 1, 1), busy(0, 0, 1, 1), drop(0), sure(0), sure(1))
        self.assertEqual(told[3:], [[1], [-4], [0]])

    def test_a_refusal_changes_nothing(self):
        for call in (sure(1), drop(1), sure(99), drop(99)):
            told = ask(person(0), hours_on_monday(), busy(0, 10, 20, 1), call, free(0, 0, 100), drop(0))
            self.assertEqual(told[3:], [[-4], [2, 0, 10, 20, 100], [0]])


if __name__ == "__main__":
    unittest.main()
