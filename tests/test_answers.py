import unittest

from freebusy.hours import answers
from line import at, best, busy, common, drop, first, free, hours, minutes, most, off, person, sure

SEVERAL = [
    0, 60,
    1, 0, 1, 600, 660,
    2, 0, 7,
    3, 0, 550, 560, 1,
    3, 0, 570, 580, 0,
    6, 0, 0, 1440,
    5, 1,
    4, 0,
    6, 0, 0, 1440,
    4, 0,
    0, 841,
]

WITH_PEOPLE = [
    0, 0,
    0, 0,
    1, 0, 1, 0, 1440,
    1, 1, 1, 0, 1440,
    3, 0, 0, 60, 1,
    3, 1, 60, 100, 0,
    7, 0, 1440, 2, 1, 0,
    7, 0, 1440, 0,
    7, 0, 1440, 10, 0, 0, 0, 0, 0, 0, 0, 0, 0, 20,
    8, 30, 0, 1440, 50, 2, 0, 1,
    8, 30, 0, 1440, 0, 0,
    9, 30, 0, 140, 2, 0, 1,
    9, 50, 0, 140, 2, 1, 0,
    10, 80, 0, 90, 2, 0, 1,
    10, 80, 0, 90, 1, 0,
    11, 0, 2, 0, 1,
    11, 0, 0,
    11, 60, 1, 1,
    12, 1, 0, 90,
    12, 0, 0, 90,
    12, 2, 0, 90,
    4, 1,
]


class Watched(list):
    """A list that fails where it would be changed."""

    def changed(self, *handed, **named):
        raise AssertionError("what is handed in is changed")

    __setitem__ = __delitem__ = __iadd__ = __imul__ = changed
    append = clear = extend = insert = pop = remove = reverse = sort = changed


class AnswersTest(unittest.TestCase):
    def test_several_calls_one_behind_another(self):
        self.assertEqual(answers(SEVERAL), [
            1, 0,
            1, 15 * 60,
            1, 1,
            1, 0,
            1, 1,
            5, 2, 540, 550, 560, 600,
            1, 1,
            1, 1,
            5, 2, 540, 570, 580, 600,
            1, -4,
            1, -1,
        ])

    def test_rows_of_people_with_how_many_before_them(self):
        self.assertEqual(answers(WITH_PEOPLE), [
            1, 0,
            1, 1,
            1, 15 * 1440,
            1, 15 * 1440,
            1, 0,
            1, 1,
            3, 1, 60, 1440,
            1, -1,
            1, -3,
            1, 100,
            1, -1,
            2, 100, 0,
            2, 90, 10,
            3, 0, 1, 2,
            3, 0, 0, 0,
            1, 2,
            1, -1,
            1, 2,
            3, 90, 30, 0,
            3, 30, 0, 60,
            1, -3,
            1, 1,
        ])

    def test_each_call_alone(self):
        told = [([0, 0], [1, 0]), ([1, 0, 1, 0, 1], [1, -3]), ([2, 0, 0], [1, -3]), ([3, 0, 0, 1, 1], [1, -3]),
                ([4, 0], [1, -4]), ([5, 0], [1, -4]), ([6, 0, 0, 1], [1, -3]), ([7, 0, 1, 1, 0], [1, -3]),
                ([7, 0, 1, 0], [1, -1]), ([8, 1, 0, 1, 1, 1, 0], [1, -3]), ([8, 1, 0, 1, 1, 0], [1, -1]),
                ([9, 1, 0, 1, 1, 0], [1, -3]), ([9, 1, 0, 1, 0], [1, -1]), ([10, 1, 0, 1, 2, 0, 1], [1, -3]),
                ([10, 1, 0, 1, 0], [1, -1]), ([11, 0, 1, 0], [1, -3]), ([11, 0, 0], [1, -1]),
                ([12, 0, 0, 1], [1, -3])]
        for calls, numbers in told:
            self.assertEqual(answers(calls), numbers)

    def test_none_free_is_one_number(self):
        self.assertEqual(answers([0, 0, 6, 0, 0, 144000]), [1, 0, 1, 0])

    def test_a_long_answer_has_61_numbers(self):
        calls = [0, 0]
        for weekday in range(1, 8):
            calls += [1, 0, weekday, 0, 10]
        numbers = answers(calls + [6, 0, 0, 144000, 4, 0])
        self.assertEqual(numbers[16:18], [61, 100])
        self.assertEqual(len(numbers), 16 + 62 + 2)
        self.assertEqual(numbers[-2:], [1, -4])

    def test_60_calls(self):
        self.assertEqual(answers([4, 0] * 60), [1, -4] * 60)

    def test_the_list_handed_in_is_as_it_was(self):
        for calls in (SEVERAL, WITH_PEOPLE):
            handed = list(calls)
            answers(handed)
            self.assertEqual(handed, calls)

    def test_the_list_handed_in_is_not_changed_for_a_while_either(self):
        for calls in (SEVERAL, WITH_PEOPLE):
            self.assertEqual(answers(Watched(calls)), answers(calls))

    def test_nothing_is_kept_from_one_time_to_the_next(self):
        for calls in (SEVERAL, WITH_PEOPLE):
            one = answers(calls)
            self.assertEqual(answers([0, 0, 6, 0, 0, 144000, 4, 0, 2, 0, 7]), [1, 0, 1, 0, 1, -4, 1, 1])
            self.assertEqual(answers([11, 0, 1, 0, 0, 0, 10, 1, 0, 9, 1, 0]), [1, -3, 1, 0, 3, 0, 0, 0])
            self.assertEqual(answers(calls), one)

    def test_what_is_given_back_is_a_new_list_of_whole_numbers(self):
        for calls in (SEVERAL, WITH_PEOPLE):
            one = answers(calls)
            one.clear()
            for number in answers(calls):
                self.assertIs(type(number), int)
            self.assertIs(type(answers(calls)), list)

    def test_answers_of_0_or_1_are_whole_numbers(self):
        calls = person(0) + off(0, 1) + off(0, 1) + busy(0, 0, 1, 1) + sure(0) + sure(0)
        for number in answers(calls):
            self.assertIs(type(number), int)


class RefusalsTest(unittest.TestCase):
    def test_without_the_refused_calls_all_else_is_answered_alike(self):
        taken = [person(60), hours(0, 1, 600, 660), hours(0, 3, 0, 1440), off(0, 7), busy(0, 550, 560, 1),
                 busy(0, 570, 580, 0), free(0, 0, 144000), sure(1), drop(0), free(0, 0, 144000), person(-60),
                 busy(1, 0, 144000, 1), off(0, 7), hours(0, 1, 0, 0), free(0, 0, 20000), hours(1, 3, 0, 600),
                 sure(2), common(0, 9000, [1, 0]), first(9, 0, 9000, 7, [0, 1]), best(9, 0, 9000, [0, 1]),
                 most(900, 0, 9000, [0, 1]), at(3000, [1, 0]), minutes(0, 0, 9000)]
        refused = [person(841), person(-841), hours(5, 1, 0, 1), hours(0, 8, 0, 1), hours(0, 1, 9, 8),
                   off(5, 1), off(0, 101), busy(5, 0, 1, 1), busy(0, 1, 1, 1), busy(0, 0, 1, 2),
                   drop(9), sure(9), free(5, 0, 1), free(0, 1, 1), common(0, 9, [0, 5]), common(9, 9, [0]),
                   first(1, 0, 9, 0, [0]), first(2, 0, 1, 1, [0]), best(0, 0, 9, [0]), best(2, 0, 1, [0]),
                   most(1, 0, 9, [0, 0]), most(2, 0, 1, [0]), at(144000, [0]), at(0, []), minutes(5, 0, 1),
                   minutes(0, 1, 1)]
        alone = [answers(sum(taken[:k], [])) for k in range(1, len(taken) + 1)]
        # With a refused one behind each, that's still no more than 60 calls.
        self.assertLessEqual(2 * len(taken), 60)
        for call in refused:
            calls = []
            told = []
            shortest = 0
            for k, other in enumerate(taken):
                calls += other
                told += alone[k][shortest:]
                shortest = len(alone[k])
                calls += call
                numbers = answers(calls)
                told += numbers[-2:]
                self.assertEqual(numbers, told)
                self.assertEqual(numbers[-2], 1)
                self.assertLess(numbers[-1], 0)


if __name__ == "__main__":
    unittest.main()
