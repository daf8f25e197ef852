import unittest

from freebusy.hours import answers
from line import busy, drop, free, hours, off, person, sure

SEVERAL = [
    0, 60,
    1, 0, 1, 600, 660,
    2, 0, 7,
    3, 0, 550, 560, 1,
    3, 0, 570, 580, 0,
    6, 0, 0, 1440,
    5, 1,
    4, 0,
    6, 0, 0, 1440,
    4, 0,
    0, 841,
]


class AnswersTest(unittest.TestCase):
    def test_several_calls_one_behind_another(self):
        self.assertEqual(answers(SEVERAL), [
            1, 0,
            1, 15 * 60,
            1, 1,
            1, 0,
            1, 1,
            5, 2, 540, 550, 560, 600,
            1, 1,
            1, 1,
            5, 2, 540, 570, 580, 600,
            1, -4,
            1, -1,
        ])

    def test_each_call_alone(self):
        told = [([0, 0], [1, 0]), ([1, 0, 1, 0, 1], [1, -3]), ([2, 0, 0], [1, -3]), ([3, 0, 0, 1, 1], [1, -3]),
                ([4, 0], [1, -4]), ([5, 0], [1, -4]), ([6, 0, 0, 1], [1, -3])]
        for calls, numbers in told:
            self.assertEqual(answers(calls), numbers)

    def test_none_free_is_one_number(self):
        self.assertEqual(answers([0, 0, 6, 0, 0, 144000]), [1, 0, 1, 0])

    def test_a_long_answer_has_61_numbers(self):
        calls = [0, 0]
        for weekday in range(1, 8):
            calls += [1, 0, weekday, 0, 10]
        numbers = answers(calls + [6, 0, 0, 144000, 4, 0])
        self.assertEqual(numbers[16:18], [61, 100])
        self.assertEqual(len(numbers), 16 + 62 + 2)
        self.assertEqual(numbers[-2:], [1, -4])

    def test_60_calls(self):
        self.assertEqual(answers([4, 0] * 60), [1, -4] * 60)

    def test_the_list_handed_in_is_as_it_was(self):
        handed = list(SEVERAL)
        answers(handed)
        self.assertEqual(handed, SEVERAL)

    def test_nothing_is_kept_from_one_time_to_the_next(self):
        one = answers(SEVERAL)
        self.assertEqual(answers([0, 0, 6, 0, 0, 144000, 4, 0, 2, 0, 7]), [1, 0, 1, 0, 1, -4, 1, 1])
        self.assertEqual(answers(SEVERAL), one)

    def test_what_is_given_back_is_a_new_list_of_whole_numbers(self):
        one = answers(SEVERAL)
        one.clear()
        for number in answers(SEVERAL):
            self.assertIs(type(number), int)
        self.assertIs(type(answers(SEVERAL)), list)

    def test_answers_of_0_or_1_are_whole_numbers(self):
        calls = person(0) + off(0, 1) + off(0, 1) + busy(0, 0, 1, 1) + sure(0) + sure(0)
        for number in answers(calls):
            self.assertIs(type(number), int)


class RefusalsTest(unittest.TestCase):
    def test_without_the_refused_calls_all_else_is_answered_alike(self):
        taken = [person(60), hours(0, 1, 600, 660), hours(0, 3, 0, 1440), off(0, 7), busy(0, 550, 560, 1),
                 busy(0, 570, 580, 0), free(0, 0, 144000), sure(1), drop(0), free(0, 0, 144000), person(-60),
                 busy(1, 0, 144000, 1), off(0, 7), hours(0, 1, 0, 0), free(0, 0, 20000)]
        refused = [person(841), person(-841), hours(5, 1, 0, 1), hours(0, 8, 0, 1), hours(0, 1, 9, 8),
                   off(5, 1), off(0, 101), busy(5, 0, 1, 1), busy(0, 1, 1, 1), busy(0, 0, 1, 2),
                   drop(9), sure(9), free(5, 0, 1), free(0, 1, 1)]
        alone = [answers(sum(taken[:k], [])) for k in range(1, len(taken) + 1)]
        for call in refused:
            calls = []
            told = []
            shortest = 0
            for k, other in enumerate(taken):
                calls += other
                told += alone[k][shortest:]
                shortest = len(alone[k])
                calls += call
                numbers = answers(calls)
                told += numbers[-2:]
                self.assertEqual(numbers, told)
                self.assertEqual(numbers[-2], 1)
                self.assertLess(numbers[-1], 0)


if __name__ == "__main__":
    unittest.main()
