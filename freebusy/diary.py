"""The people and what's busy, and the calls on them; each call answers a list of numbers."""

from freebusy.stretches import put_behind, told, total, without

UNFIT = -1
NOBODY = -3
NOT_BUSY = -4
FULL = -5

DAY = 1440
MOMENTS = 144000
# By the clocks farthest behind and ahead.
FIRST_DAY = -1
LAST_DAY = 100
AHEAD_AT_MOST = 840
PEOPLE_AT_MOST = 8
BUSY_AT_MOST = 50


def is_stretch(a, b):
    return a < b and b <= MOMENTS


class Person:
    def __init__(self, ahead):
        self.ahead = ahead
        # Monday first, as day 0 is one.
        self.week = [(0, 0)] * 7
        self.days_off = {}

    def works(self, a, b):
        found = []
        for day in range(FIRST_DAY, LAST_DAY + 1):
            if day not in self.days_off:
                midnight = day * DAY - self.ahead
                span = self.week[day % 7]
                put_behind(found, max(a, midnight + span[0]), min(b, midnight + span[1]))
        return found


class Entry:
    def __init__(self, whose, begin, end, for_sure):
        self.whose = whose
        self.begin = begin
        self.end = end
        self.for_sure = for_sure


class Diary:
    def __init__(self):
        self.people = []
        self.entries = {}
        # Counts the dropped ones too: a number isn't used again.
        self.entries_so_far = 0

    def knows(self, person):
        return person < len(self.people)

    def person(self, ahead):
        if ahead < -AHEAD_AT_MOST or ahead > AHEAD_AT_MOST:
            return [UNFIT]
        if len(self.people) == PEOPLE_AT_MOST:
            return [FULL]
        self.people.append(Person(ahead))
        return [len(self.people) - 1]

    def hours(self, person, weekday, begin, end):
        if not self.knows(person):
            return [NOBODY]
        if weekday < 1 or weekday > 7 or end > DAY or end < begin:
            return [UNFIT]
        worker = self.people[person]
        worker.week[weekday - 1] = (begin, end)
        return [total(worker.works(0, MOMENTS))]

    def off(self, person, day):
        if not self.knows(person):
            return [NOBODY]
        if day < FIRST_DAY or day > LAST_DAY:
            return [UNFIT]
        days_off = self.people[person].days_off
        if day in days_off:
            days_off.pop(day)
            return [0]
        days_off[day] = True
        return [1]

    def busy(self, person, begin, end, sort):
        if not self.knows(person):
            return [NOBODY]
        if not is_stretch(begin, end) or (sort != 0 and sort != 1):
            return [UNFIT]
        if len(self.entries) == BUSY_AT_MOST:
            return [FULL]
        number = self.entries_so_far
        self.entries[number] = Entry(person, begin, end, sort == 1)
        self.entries_so_far = number + 1
        return [number]

    def drop(self, item):
        if item not in self.entries:
            return [NOT_BUSY]
        self.entries.pop(item)
        return [len(self.entries)]

    def sure(self, item):
        if item not in self.entries:
            return [NOT_BUSY]
        entry = self.entries[item]
        entry.for_sure = not entry.for_sure
        return [1 if entry.for_sure else 0]

    def free_stretches(self, person, a, b):
        found = self.people[person].works(a, b)
        for entry in self.entries.values():
            if entry.whose == person and entry.for_sure:
                found = without(found, entry.begin, entry.end)
        return found

    def free(self, person, a, b):
        if not self.knows(person):
            return [NOBODY]
        if not is_stretch(a, b):
            return [UNFIT]
        return told(self.free_stretches(person, a, b))
