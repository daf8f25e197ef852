"""Lines of calls, drawn from fixed seeds, answered as a look at every single minute answers them."""

import random
import unittest

from line import ALL, ByMinute, ask, busy, drop, free, hours, off, person, sure


def draw_moment(draw):
    return draw.choice((draw.randint(0, ALL), draw.randint(0, 3000), draw.randint(ALL - 3000, ALL), ALL, 0))


def draw_stretch(draw, longest):
    a = draw_moment(draw)
    return a, a + draw.randint(0 if draw.random() < 0.1 else 1, longest)


def draw_hours(draw, people):
    begin = draw.choice((0, 0, draw.randint(0, 1440)))
    end = draw.choice((1440, 1440, draw.randint(begin, 1441), draw.randint(0, 2000)))
    return hours(draw.randint(0, people), draw.randint(1, 7), begin, end)


def draw_call(draw, people):
    chance = draw.random()
    if chance < 0.05:
        return person(draw.randint(-900, 900))
    if chance < 0.20:
        return draw_hours(draw, people)
    if chance < 0.35:
        return off(draw.randint(0, people), draw.choice((draw.randint(-2, 101), -1, 0, 1, 99, 100)))
    if chance < 0.60:
        return busy(draw.randint(0, people), *draw_stretch(draw, 4000), draw.choice((0, 1, 1, 1, 1, 2)))
    if chance < 0.65:
        return drop(draw.randint(0, 12))
    if chance < 0.75:
        return sure(draw.randint(0, 12))
    return free(draw.randint(0, people), *draw_stretch(draw, draw.choice((100, 5000, 40000))))


def draw_line(seed):
    draw = random.Random(seed)
    people = draw.randint(1, 3)
    calls = [person(draw.choice((-840, 840, 0, draw.randint(-840, 840)))) for k in range(people)]
    calls += [hours(k, weekday, 0, 1440) for k in range(people) for weekday in (1, 3, 7)]
    return calls + [draw_call(draw, people) for k in range(60 - len(calls))]


class ByMinuteTest(unittest.TestCase):
    def test_drawn_lines(self):
        for seed in range(24):
            calls = draw_line(seed)
            plain = ByMinute()
            for call, told in zip(calls, ask(*calls)):
                self.assertEqual(told, plain.answer(call), (seed, call))


if __name__ == "__main__":
    unittest.main()
