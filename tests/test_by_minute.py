"""Lines of calls, drawn from fixed seeds, answered as a look at every single minute answers them."""

import random
import unittest

from line import (ALL, ByMinute, ask, at, best, busy, common, drop, first, free, hours, minutes, most, off, person,
                  sure)


def draw_moment(draw):
    return draw.choice((draw.randint(0, ALL), draw.randint(0, 3000), draw.randint(ALL - 3000, ALL), ALL, 0))


def draw_stretch(draw, longest):
    a = draw_moment(draw)
    return a, a + draw.randint(0 if draw.random() < 0.1 else 1, longest)


def draw_hours(draw, people):
    begin = draw.choice((0, 0, draw.randint(0, 1440)))
    end = draw.choice((1440, 1440, draw.randint(begin, 1441), draw.randint(0, 2000)))
    return hours(draw.randint(0, people), draw.randint(1, 7), begin, end)


def draw_people(draw, people):
    chosen = draw.sample(range(people), draw.randint(1, people))
    if draw.random() < 0.04:
        chosen.append(draw.randint(0, 20))
    if draw.random() < 0.04:
        chosen = chosen[1:]
    return chosen


def draw_question(draw, people, a, b):
    """A call of those that change nothing."""
    some = draw_people(draw, people)
    long = draw.choice((draw.randint(0, 20), draw.randint(1, 100), draw.randint(1, 400), max(0, b - a)))
    return draw.choice((
        free(draw.randint(0, people), a, b),
        common(a, b, some),
        first(long, a, b, draw.choice((0, 1, 5, 15, 60, 97, 1440, 1441, draw.randint(1, 300))), some),
        best(long, a, b, some),
        best(long, a, b, some),
        most(long, a, b, some),
        most(long, a, b, some),
        at(draw.choice((a, a, a, draw_moment(draw))), some),
        minutes(draw.randint(0, people), a, b),
    ))


def draw_call(draw, people):
    chance = draw.random()
    if chance < 0.05:
        return person(draw.randint(-900, 900))
    if chance < 0.20:
        return draw_hours(draw, people)
    if chance < 0.35:
        return off(draw.randint(0, people), draw.choice((draw.randint(-2, 101), -1, 0, 1, 99, 100)))
    if chance < 0.60:
        return busy(draw.randint(0, people), *draw_stretch(draw, 4000), draw.choice((0, 1, 1, 1, 1, 2)))
    if chance < 0.65:
        return drop(draw.randint(0, 12))
    if chance < 0.75:
        return sure(draw.randint(0, 12))
    if chance < 0.85:
        return free(draw.randint(0, people), *draw_stretch(draw, draw.choice((100, 5000, 40000))))
    return draw_question(draw, people, *draw_stretch(draw, draw.choice((100, 5000))))


def draw_line(seed):
    draw = random.Random(seed)
    people = draw.randint(1, 3)
    calls = [person(draw.choice((-840, 840, 0, draw.randint(-840, 840)))) for k in range(people)]
    calls += [hours(k, weekday, 0, 1440) for k in range(people) for weekday in (1, 3, 7)]
    return calls + [draw_call(draw, people) for k in range(60 - len(calls))]


def draw_change(draw, people):
    chance = draw.random()
    if chance < 0.85:
        begin = draw.randint(0, 3000)
        sort = draw.choice((0, 0, 0, 0, 0, 1))
        longest = 60 if sort == 1 else draw.choice((20, 300, 900))
        return busy(draw.randint(0, people - 1), begin, begin + draw.randint(1, longest), sort)
    if chance < 0.90:
        return sure(draw.randint(0, 20))
    if chance < 0.97:
        return drop(draw.randint(0, 20))
    return off(draw.randint(0, people - 1), draw.randint(-1, 3))


def draw_crowded_line(seed):
    """Some people and much of what's busy within few days, and questions on it."""
    draw = random.Random(seed)
    people = draw.randint(1, 4)
    calls = [person(draw.choice((0, 0, 60, draw.randint(-840, 840)))) for k in range(people)]
    for k in range(people):
        for weekday in (1, 2):
            calls.append(hours(k, weekday, draw.choice((0, 0, 0, 300)), draw.choice((1440, 1440, 1200))))
    calls += [draw_change(draw, people) for k in range(24)]
    while len(calls) < 60:
        a = draw.randint(0, 2000)
        b = a + draw.choice((draw.randint(0, 700), draw.randint(500, 2500)))
        calls.append(draw.choice((draw_change(draw, people), draw_question(draw, people, a, b))))
    return calls


class ByMinuteTest(unittest.TestCase):
    def compare(self, seed, calls):
        plain = ByMinute()
        for call, told in zip(calls, ask(*calls)):
            self.assertEqual(told, plain.answer(call), (seed, call))

    def test_drawn_lines(self):
        for seed in range(24):
            self.compare(seed, draw_line(seed))

    def test_drawn_lines_of_few_days(self):
        for seed in range(40):
            self.compare(seed, draw_crowded_line(seed))


if __name__ == "__main__":
    unittest.main()
