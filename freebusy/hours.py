"""The interface: a list of calls in, the list of what they answer out."""

from freebusy.diary import Diary

PERSON = 0
HOURS = 1
OFF = 2
BUSY = 3
DROP = 4
SURE = 5

# How many whole numbers stand behind each call's number: of person, hours, off, busy, drop, sure, free.
HANDED = (1, 4, 2, 4, 1, 1, 3)


def answer(diary, call, numbers):
    if call == PERSON:
        return diary.person(numbers[0])
    if call == HOURS:
        return diary.hours(numbers[0], numbers[1], numbers[2], numbers[3])
    if call == OFF:
        return diary.off(numbers[0], numbers[1])
    if call == BUSY:
        return diary.busy(numbers[0], numbers[1], numbers[2], numbers[3])
    if call == DROP:
        return diary.drop(numbers[0])
    if call == SURE:
        return diary.sure(numbers[0])
    return diary.free(numbers[0], numbers[1], numbers[2])


def answers(calls):
    diary = Diary()
    given = []
    place = 0
    while place < len(calls):
        call = calls[place]
        behind = place + 1 + HANDED[call]
        numbers = answer(diary, call, calls[place + 1:behind])
        given.append(len(numbers))
        given.extend(numbers)
        place = behind
    return given
