"""What the tests share: the calls as lists of numbers, and what a look at every single minute would answer."""

from freebusy.hours import answers

ALL = 144000


def person(ahead):
    return [0, ahead]


def hours(who, weekday, begin, end):
    return [1, who, weekday, begin, end]


def off(who, day):
    return [2, who, day]


def busy(who, begin, end, sort):
    return [3, who, begin, end, sort]


def drop(item):
    return [4, item]


def sure(item):
    return [5, item]


def free(who, a, b):
    return [6, who, a, b]


def week(who, begin, end):
    """The calls that give a person the same hours on all seven weekdays."""
    return [hours(who, weekday, begin, end) for weekday in range(1, 8)]


def ask(*calls):
    """What each of the calls answers, a list for each."""
    numbers = answers([number for call in calls for number in call])
    told = []
    while numbers:
        count = numbers[0]
        told.append(numbers[1:1 + count])
        numbers = numbers[1 + count:]
    assert len(told) == len(calls)
    return told


def last(*calls):
    """What the last one of the calls answers."""
    return ask(*calls)[-1]


class ByMinute:
    """The calls answered in the plainest way: every minute is looked at by itself."""

    def __init__(self):
        self.people = []
        self.items = []

    def works_at(self, who, moment):
        ahead, times, days_off = self.people[who]
        day, minute = divmod(moment + ahead, 1440)
        begin, end = times.get((day % 7) + 1, (0, 0))
        return day not in days_off and begin <= minute < end

    def free_at(self, who, moment):
        return self.works_at(who, moment) and not any(
            item is not None and item[0] == who and item[3] == 1 and item[1] <= moment < item[2]
            for item in self.items)

    def left(self):
        return sum(1 for item in self.items if item is not None)

    def call_person(self, ahead):
        if abs(ahead) > 840:
            return [-1]
        if len(self.people) == 8:
            return [-5]
        self.people.append((ahead, {}, set()))
        return [len(self.people) - 1]

    def call_hours(self, who, weekday, begin, end):
        if who >= len(self.people):
            return [-3]
        if weekday not in range(1, 8) or end > 1440 or end < begin:
            return [-1]
        self.people[who][1][weekday] = (begin, end)
        return [sum(1 for moment in range(ALL) if self.works_at(who, moment))]

    def call_off(self, who, day):
        if who >= len(self.people):
            return [-3]
        if day not in range(-1, 101):
            return [-1]
        self.people[who][2].symmetric_difference_update({day})
        return [1 if day in self.people[who][2] else 0]

    def call_busy(self, who, begin, end, sort):
        if who >= len(self.people):
            return [-3]
        if end > ALL or end <= begin or sort not in (0, 1):
            return [-1]
        if self.left() == 50:
            return [-5]
        self.items.append([who, begin, end, sort])
        return [len(self.items) - 1]

    def call_drop(self, item):
        if item >= len(self.items) or self.items[item] is None:
            return [-4]
        self.items[item] = None
        return [self.left()]

    def call_sure(self, item):
        if item >= len(self.items) or self.items[item] is None:
            return [-4]
        self.items[item][3] = 1 - self.items[item][3]
        return [self.items[item][3]]

    def call_free(self, who, a, b):
        if who >= len(self.people):
            return [-3]
        if a >= b or b > ALL:
            return [-1]
        ends = []
        before = False
        for moment in range(a, b):
            now = self.free_at(who, moment)
            if now != before:
                ends.append(moment)
            before = now
        if before:
            ends.append(b)
        return [len(ends) // 2] + ends[:60]

    def answer(self, call):
        ways = (self.call_person, self.call_hours, self.call_off, self.call_busy,
                self.call_drop, self.call_sure, self.call_free)
        return ways[call[0]](*call[1:])
