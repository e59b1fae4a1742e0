"""Rows in order, each element unlike the next one, taken as sets by a function that is handed in."""


def either(one, other, order):
    return [element for answer, element in walked(one, other, order)]


def both(one, other, order):
    return [element for answer, element in walked(one, other, order) if answer == 0]


def without(one, other, order):
    return [element for answer, element in walked(one, other, order) if answer < 0]


# Tells pairs: below 0 with an element of the first row alone, 0 with one of the first row that has a like one in
# the second, above 0 with one of the second row alone. All three sets are picked from this one walk, so that by
# any function that answers alike, each element of the first row is in just one of both and without.
def walked(one, other, order):
    told = []
    i = 0
    j = 0
    while i < len(one) and j < len(other):
        answer = order(one[i], other[j])
        if answer > 0:
            told.append((answer, other[j]))
        else:
            told.append((answer, one[i]))
            i += 1
        if answer >= 0:
            j += 1
    return told + [(-1, element) for element in one[i:]] + [(1, element) for element in other[j:]]
