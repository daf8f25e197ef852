"""From which moment on a length fits: the first one, the one that takes least, the one that suits most."""


def first_start(stretches, long, g):
    for begin, end in stretches:
        moment = (begin + g - 1) // g * g
        if moment + long <= end:
            return [moment]
    return []


def minutes_taken(taken, begin, end):
    return sum([max(0, min(end, stop) - max(begin, start)) for start, stop in taken])


# A length that moves on takes fewer and fewer minutes until it leaves one of what's taken behind or meets the next:
# only there, or at the first or last place it has, can it take the fewest.
def turns(taken, long):
    found = []
    for begin, end in taken:
        found.append(begin - long)
        found.append(end)
    return sorted(found)


def best_start(stretches, long, taken):
    found = []
    moments = turns(taken, long)
    for begin, end in stretches:
        latest = end - long
        if begin <= latest:
            for moment in [begin] + [k for k in moments if begin < k and k < latest] + [latest]:
                minutes = minutes_taken(taken, moment, moment + long)
                if len(found) == 0 or minutes < found[1]:
                    found = [moment, minutes]
    return found


# Of each person's stretches, long enough ones alone: from when the length fits, and from when it fits no more.
def changes(person, stretches, long):
    found = []
    for begin, end in stretches:
        if begin + long <= end:
            found.append((begin, 1, 1 << person))
            found.append((end - long + 1, -1, 1 << person))
    return found


def most_start(a, steps):
    found = [a, 0, 0]
    count = 0
    who = 0
    # At one moment those who go are taken away first, so that the count is never above what it comes to there.
    for moment, step, power in sorted(steps):
        count += step
        who += step * power
        if count > found[1]:
            found = [moment, count, who]
    return found
