"""What the tests share: the calls as lists of numbers, and what a look at every single minute would answer."""

from freebusy.hours import answers

ALL = 144000


def person(ahead):
    return [0, ahead]


def hours(who, weekday, begin, end):
    return [1, who, weekday, begin, end]


def off(who, day):
    return [2, who, day]


def busy(who, begin, end, sort):
    return [3, who, begin, end, sort]


def drop(item):
    return [4, item]


def sure(item):
    return [5, item]


def free(who, a, b):
    return [6, who, a, b]


def common(a, b, people):
    return [7, a, b, len(people), *people]


def first(long, a, b, g, people):
    return [8, long, a, b, g, len(people), *people]


def best(long, a, b, people):
    return [9, long, a, b, len(people), *people]


def most(long, a, b, people):
    return [10, long, a, b, len(people), *people]


def at(moment, people):
    return [11, moment, len(people), *people]


def minutes(who, a, b):
    return [12, who, a, b]


def week(who, begin, end):
    """The calls that give a person the same hours on all seven weekdays."""
    return [hours(who, weekday, begin, end) for weekday in range(1, 8)]


def mondays(count):
    """The calls that make so many people who work all of each Monday, and no other day."""
    return [person(0) for k in range(count)] + [hours(k, 1, 0, 1440) for k in range(count)]


def ask(*calls):
    """What each of the calls answers, a list for each."""
    numbers = answers([number for call in calls for number in call])
    told = []
    while numbers:
        count = numbers[0]
        told.append(numbers[1:1 + count])
        numbers = numbers[1 + count:]
    assert len(told) == len(calls)
    return told


def last(*calls):
    """What the last one of the calls answers."""
    return ask(*calls)[-1]


class ByMinute:
    """The calls answered in the plainest way: every minute is looked at by itself."""

    def __init__(self):
        self.people = []
        self.items = []

    def works_at(self, who, moment):
        ahead, times, days_off = self.people[who]
        day, minute = divmod(moment + ahead, 1440)
        begin, end = times.get((day % 7) + 1, (0, 0))
        return day not in days_off and begin <= minute < end

    def busy_at(self, who, moment, sort):
        return any(item is not None and item[0] == who and item[3] == sort and item[1] <= moment < item[2]
                   for item in self.items)

    def free_at(self, who, moment):
        return self.works_at(who, moment) and not self.busy_at(who, moment, 1)

    def left(self):
        return sum(1 for item in self.items if item is not None)

    def call_person(self, ahead):
        if abs(ahead) > 840:
            return [-1]
        if len(self.people) == 8:
            return [-5]
        self.people.append((ahead, {}, set()))
        return [len(self.people) - 1]

    def call_hours(self, who, weekday, begin, end):
        if who >= len(self.people):
            return [-3]
        if weekday not in range(1, 8) or end > 1440 or end < begin:
            return [-1]
        self.people[who][1][weekday] = (begin, end)
        return [sum(1 for moment in range(ALL) if self.works_at(who, moment))]

    def call_off(self, who, day):
        if who >= len(self.people):
            return [-3]
        if day not in range(-1, 101):
            return [-1]
        self.people[who][2].symmetric_difference_update({day})
        return [1 if day in self.people[who][2] else 0]

    def call_busy(self, who, begin, end, sort):
        if who >= len(self.people):
            return [-3]
        if end > ALL or end <= begin or sort not in (0, 1):
            return [-1]
        if self.left() == 50:
            return [-5]
        self.items.append([who, begin, end, sort])
        return [len(self.items) - 1]

    def call_drop(self, item):
        if item >= len(self.items) or self.items[item] is None:
            return [-4]
        self.items[item] = None
        return [self.left()]

    def call_sure(self, item):
        if item >= len(self.items) or self.items[item] is None:
            return [-4]
        self.items[item][3] = 1 - self.items[item][3]
        return [self.items[item][3]]

    def unfit_people(self, people):
        """The refusal of these people, or None."""
        if any(who >= len(self.people) for who in people):
            return [-3]
        if not people or len(set(people)) != len(people):
            return [-1]
        return None

    def unfit_window(self, people, a, b):
        """The refusal of these people and this window, or None."""
        return self.unfit_people(people) or ([-1] if a >= b or b > ALL else None)

    def runs(self, people, a, b):
        """For each moment of the window: for how many minutes of it, from there on, all of these are free."""
        found = []
        for moment in reversed(range(a, b)):
            free_now = all(self.free_at(who, moment) for who in people)
            found.append((found[-1] if found else 0) + 1 if free_now else 0)
        return found[::-1]

    def call_free(self, who, a, b):
        return self.call_common(a, b, [who])

    def call_common(self, a, b, people):
        refused = self.unfit_window(people, a, b)
        if refused:
            return refused
        ends = []
        before = False
        for moment in range(a, b):
            now = all(self.free_at(who, moment) for who in people)
            if now != before:
                ends.append(moment)
            before = now
        if before:
            ends.append(b)
        return [len(ends) // 2] + ends[:60]

    def call_first(self, long, a, b, g, people):
        refused = self.unfit_window(people, a, b)
        if refused:
            return refused
        if long == 0 or g not in range(1, 1441):
            return [-1]
        for moment, run in zip(range(a, b), self.runs(people, a, b)):
            if moment % g == 0 and run >= long:
                return [moment]
        return [-6]

    def call_best(self, long, a, b, people):
        refused = self.unfit_window(people, a, b)
        if refused:
            return refused
        if long == 0:
            return [-1]
        up_to = [0]
        for moment in range(a, b):
            up_to.append(up_to[-1] + sum(1 for who in people if self.busy_at(who, moment, 0)))
        runs = self.runs(people, a, b)
        found = [(up_to[k + long] - up_to[k], a + k) for k in range(b - a) if runs[k] >= long]
        return [min(found)[1], min(found)[0]] if found else [-6]

    def call_most(self, long, a, b, people):
        refused = self.unfit_window(people, a, b)
        if refused:
            return refused
        if long == 0:
            return [-1]
        if b - a < long:
            return [-6]
        runs = {who: self.runs([who], a, b) for who in people}
        found = []
        for k in range(b - a - long + 1):
            can = [who for who in people if runs[who][k] >= long]
            found.append((-len(can), a + k, sum(2 ** who for who in can)))
        count, moment, powers = min(found)
        return [moment, -count, powers]

    def call_at(self, moment, people):
        refused = self.unfit_people(people)
        if refused:
            return refused
        if moment >= ALL:
            return [-1]
        return [sum(2 ** who for who in people if self.free_at(who, moment))]

    def call_minutes(self, who, a, b):
        refused = self.unfit_window([who], a, b)
        if refused:
            return refused
        free_then = [moment for moment in range(a, b) if self.free_at(who, moment)]
        return [len(free_then), sum(1 for moment in free_then if self.busy_at(who, moment, 0)),
                sum(1 for moment in range(a, b) if self.works_at(who, moment) and self.busy_at(who, moment, 1))]

    def answer(self, call):
        ways = (self.call_person, self.call_hours, self.call_off, self.call_busy, self.call_drop, self.call_sure,
                self.call_free, self.call_common, self.call_first, self.call_best, self.call_most, self.call_at,
                self.call_minutes)
        numbers = call[1:]
        if 7 <= call[0] <= 11:
            ahead = {7: 2, 8: 4, 9: 3, 10: 3, 11: 1}[call[0]]
            numbers = call[1:1 + ahead] + [call[2 + ahead:]]
        return ways[call[0]](*numbers)
