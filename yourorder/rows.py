"""Rows: sorted, merged, thinned out and searched by a function that is handed in."""


def ahead(row, order):
    for k in range(len(row) - 1):
        if order(row[k], row[k + 1]) > 0:
            return k + 1
    return len(row)


def in_order(row, order):
    return ahead(row, order) == len(row)


# A row in order may cost n - 1 questions alone, so that is asked first. If it was asked in vain, n log(n) still
# suffices: log(n) rounds of merging hold n - 1 merges, each of which asks at least once less than it has elements.
def stable(row, order):
    if in_order(row, order):
        return list(row)
    parts = [[element] for element in row]
    while len(parts) > 1:
        parts = merged_by_twos(parts, order)
    return parts[0]


# Neighbours are merged, never others, so that like elements stay as they stood among each other.
def merged_by_twos(parts, order):
    told = [merged(parts[k], parts[k + 1], order) for k in range(0, len(parts) - 1, 2)]
    if len(parts) % 2 == 1:
        told.append(parts[-1])
    return told


# Each question puts one element away for good, whatever is answered: so by any function there is an end,
# and nothing is lost or told twice.
def merged(one, other, order):
    told = []
    i = 0
    j = 0
    while i < len(one) and j < len(other):
        if order(one[i], other[j]) > 0:
            told.append(other[j])
            j += 1
        else:
            told.append(one[i])
            i += 1
    return told + one[i:] + other[j:]


def unique(row, order):
    told = row[:1]
    for element in row[1:]:
        if order(told[-1], element) != 0:
            told.append(element)
    return told


def lower(row, key, order):
    return count_in_front(row, lambda element: order(element, key) < 0)


def upper(row, key, order):
    return count_in_front(row, lambda element: order(element, key) <= 0)


# Of the n + 1 counts that are possible, each question leaves at most half, rounded up: hence log(n + 1) questions.
def count_in_front(row, is_in_front):
    low = 0
    high = len(row)
    while low < high:
        middle = (low + high) // 2
        if is_in_front(row[middle]):
            low = middle + 1
        else:
            high = middle
    return low
