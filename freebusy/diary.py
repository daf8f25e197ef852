"""The people and what's busy, and the calls on them; each call answers a list of numbers."""

from freebusy.starts import best_start, changes, first_start, most_start
from freebusy.stretches import both, joined, put_behind, told, total, without

UNFIT = -1
NOBODY = -3
NOT_BUSY = -4
FULL = -5
NO_START = -6

DAY = 1440
MOMENTS = 144000
# By the clocks farthest behind and ahead.
FIRST_DAY = -1
LAST_DAY = 100
AHEAD_AT_MOST = 840
PEOPLE_AT_MOST = 8
BUSY_AT_MOST = 50


def is_stretch(a, b):
    return a < b and b <= MOMENTS


class Person:
    def __init__(self, ahead):
        self.ahead = ahead
        # Monday first, as day 0 is one.
        self.week = [(0, 0)] * 7
        self.days_off = {}

    def works(self, a, b):
        found = []
        for day in range(FIRST_DAY, LAST_DAY + 1):
            if day not in self.days_off:
                midnight = day * DAY - self.ahead
                span = self.week[day % 7]
                put_behind(found, max(a, midnight + span[0]), min(b, midnight + span[1]))
        return found


class Entry:
    def __init__(self, whose, begin, end, for_sure):
        self.whose = whose
        self.begin = begin
        self.end = end
        self.for_sure = for_sure


class Diary:
    def __init__(self):
        self.people = []
        self.entries = {}
        # Counts the dropped ones too: a number isn't used again.
        self.entries_so_far = 0

    def knows(self, person):
        return person < len(self.people)

    # 0 if there's none: what's asked for people who aren't there is refused ahead of all else that doesn't fit.
    def refusal(self, people, fits):
        for person in people:
            if not self.knows(person):
                return NOBODY
        if len(people) == 0 or len(set(people)) < len(people) or not fits:
            return UNFIT
        return 0

    def person(self, ahead):
        if ahead < -AHEAD_AT_MOST or ahead > AHEAD_AT_MOST:
            return [UNFIT]
        if len(self.people) == PEOPLE_AT_MOST:
            return [FULL]
        self.people.append(Person(ahead))
        return [len(self.people) - 1]

    def hours(self, person, weekday, begin, end):
        refusal = self.refusal([person], weekday >= 1 and weekday <= 7 and begin <= end and end <= DAY)
        if refusal < 0:
            return [refusal]
        worker = self.people[person]
        worker.week[weekday - 1] = (begin, end)
        return [total(worker.works(0, MOMENTS))]

    def off(self, person, day):
        refusal = self.refusal([person], day >= FIRST_DAY and day <= LAST_DAY)
        if refusal < 0:
            return [refusal]
        days_off = self.people[person].days_off
        if day in days_off:
            days_off.pop(day)
            return [0]
        days_off[day] = True
        return [1]

    def busy(self, person, begin, end, sort):
        refusal = self.refusal([person], is_stretch(begin, end) and (sort == 0 or sort == 1))
        if refusal < 0:
            return [refusal]
        if len(self.entries) == BUSY_AT_MOST:
            return [FULL]
        number = self.entries_so_far
        self.entries[number] = Entry(person, begin, end, sort == 1)
        self.entries_so_far = number + 1
        return [number]

    def drop(self, item):
        if item not in self.entries:
            return [NOT_BUSY]
        self.entries.pop(item)
        return [len(self.entries)]

    def sure(self, item):
        if item not in self.entries:
            return [NOT_BUSY]
        entry = self.entries[item]
        entry.for_sure = not entry.for_sure
        return [1 if entry.for_sure else 0]

    # They may lie over one another.
    def busy_stretches(self, person, for_sure):
        return [(e.begin, e.end) for e in self.entries.values() if e.whose == person and e.for_sure == for_sure]

    def free_stretches(self, person, a, b):
        found = self.people[person].works(a, b)
        for begin, end in self.busy_stretches(person, True):
            found = without(found, begin, end)
        return found

    def perhaps_stretches(self, person):
        return joined(self.busy_stretches(person, False))

    def common_stretches(self, people, a, b):
        found = [(a, b)]
        for person in people:
            found = both(found, self.free_stretches(person, a, b))
        return found

    def free(self, person, a, b):
        return self.common(a, b, [person])

    def common(self, a, b, people):
        refusal = self.refusal(people, is_stretch(a, b))
        if refusal < 0:
            return [refusal]
        return told(self.common_stretches(people, a, b))

    def first(self, long, a, b, g, people):
        refusal = self.refusal(people, is_stretch(a, b) and long > 0 and g >= 1 and g <= DAY)
        if refusal < 0:
            return [refusal]
        found = first_start(self.common_stretches(people, a, b), long, g)
        return found if len(found) > 0 else [NO_START]

    def best(self, long, a, b, people):
        refusal = self.refusal(people, is_stretch(a, b) and long > 0)
        if refusal < 0:
            return [refusal]
        taken = []
        for person in people:
            taken.extend(self.perhaps_stretches(person))
        found = best_start(self.common_stretches(people, a, b), long, taken)
        return found if len(found) > 0 else [NO_START]

    def most(self, long, a, b, people):
        refusal = self.refusal(people, is_stretch(a, b) and long > 0)
        if refusal < 0:
            return [refusal]
        if b - a < long:
            return [NO_START]
        steps = []
        for person in people:
            steps.extend(changes(person, self.free_stretches(person, a, b), long))
        return most_start(a, steps)

    def at(self, moment, people):
        refusal = self.refusal(people, moment < MOMENTS)
        if refusal < 0:
            return [refusal]
        return [sum([1 << k for k in people if len(self.free_stretches(k, moment, moment + 1)) > 0])]

    def minutes(self, person, a, b):
        refusal = self.refusal([person], is_stretch(a, b))
        if refusal < 0:
            return [refusal]
        free = self.free_stretches(person, a, b)
        at_work = total(self.people[person].works(a, b))
        return [total(free), total(both(free, self.perhaps_stretches(person))), at_work - total(free)]
