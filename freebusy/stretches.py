"""Lists of stretches (begin, end), without end: in order, none of them empty, no two that touch."""

TOLD_AT_MOST = 30


# The stretch may be empty, as hours outside a window are; it never begins before the last one ends.
def put_behind(stretches, begin, end):
    if begin >= end:
        return
    if len(stretches) > 0 and stretches[-1][1] == begin:
        stretches[-1] = (stretches[-1][0], end)
    else:
        stretches.append((begin, end))


# The stretches handed in may lie over one another, in any order.
def joined(stretches):
    found = []
    reach = 0
    for begin, end in sorted(stretches):
        put_behind(found, max(begin, reach), end)
        reach = max(reach, end)
    return found


def both(one, other):
    found = []
    i = 0
    j = 0
    while i < len(one) and j < len(other):
        put_behind(found, max(one[i][0], other[j][0]), min(one[i][1], other[j][1]))
        if one[i][1] < other[j][1]:
            i += 1
        else:
            j += 1
    return found


# What's taken out is not empty, so that the two parts left of a stretch don't touch.
def without(stretches, begin, end):
    left = []
    for start, stop in stretches:
        if start < begin:
            left.append((start, min(stop, begin)))
        if stop > end:
            left.append((max(start, end), stop))
    return left


def total(stretches):
    return sum([end - begin for begin, end in stretches])


def told(stretches):
    numbers = [len(stretches)]
    for begin, end in stretches[:TOLD_AT_MOST]:
        numbers.append(begin)
        numbers.append(end)
    return numbers
