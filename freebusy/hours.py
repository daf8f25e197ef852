"""The interface: a list of calls in, the list of what they answer out."""

from freebusy.diary import Diary

PERSON = 0
HOURS = 1
OFF = 2
BUSY = 3
DROP = 4
SURE = 5
FREE = 6
COMMON = 7
FIRST = 8
BEST = 9
MOST = 10
AT = 11

# How many whole numbers stand behind the number of each call, from person to minutes, ahead of a row of people.
HANDED = (1, 4, 2, 4, 1, 1, 3, 2, 4, 3, 3, 1, 3)


def has_people(call):
    return call >= COMMON and call <= AT


def answer(diary, call, numbers, people):
    if call == PERSON:
        return diary.person(numbers[0])
    if call == HOURS:
        return diary.hours(numbers[0], numbers[1], numbers[2], numbers[3])
    if call == OFF:
        return diary.off(numbers[0], numbers[1])
    if call == BUSY:
        return diary.busy(numbers[0], numbers[1], numbers[2], numbers[3])
    if call == DROP:
        return diary.drop(numbers[0])
    if call == SURE:
        return diary.sure(numbers[0])
    if call == FREE:
        return diary.free(numbers[0], numbers[1], numbers[2])
    if call == COMMON:
        return diary.common(numbers[0], numbers[1], people)
    if call == FIRST:
        return diary.first(numbers[0], numbers[1], numbers[2], numbers[3], people)
    if call == BEST:
        return diary.best(numbers[0], numbers[1], numbers[2], people)
    if call == MOST:
        return diary.most(numbers[0], numbers[1], numbers[2], people)
    if call == AT:
        return diary.at(numbers[0], people)
    return diary.minutes(numbers[0], numbers[1], numbers[2])


def answers(calls):
    diary = Diary()
    given = []
    place = 0
    while place < len(calls):
        call = calls[place]
        behind = place + 1 + HANDED[call]
        numbers = calls[place + 1:behind]
        people = []
        if has_people(call):
            row = behind + 1
            behind = row + calls[behind]
            people = calls[row:behind]
        told = answer(diary, call, numbers, people)
        given.append(len(told))
        given.extend(told)
        place = behind
    return given
