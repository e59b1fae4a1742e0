"""Picks: what a row's order tells of it, by a function that is handed in."""

from yourorder.errors import NoElement, NoPlace
from yourorder.rows import lower, stable, upper


def least(row, order):
    if len(row) == 0:
        raise NoElement("an empty row has no least element")
    told = row[0]
    for element in row[1:]:
        if order(element, told) < 0:
            told = element
    return told


# One question of each two neighbours leaves half of the row for either end: three questions for two elements.
def ends(row, order):
    if len(row) == 0:
        raise NoElement("an empty row has no ends")
    in_front = []
    behind = []
    for k in range(0, len(row) - 1, 2):
        is_turned = order(row[k], row[k + 1]) > 0
        in_front.append(row[k + 1] if is_turned else row[k])
        behind.append(row[k] if is_turned else row[k + 1])
    if len(row) % 2 == 1:
        in_front.append(row[-1])
        behind.append(row[-1])
    return (least(in_front, order), least(behind, lambda a, b: order(b, a)))


# Each element is put behind those kept that don't stand behind it, so like ones stay as they stood. No more than
# many are searched, hence log(many + 1) questions for each.
def best(row, many, order):
    kept = []
    for element in row:
        kept.insert(upper(kept, element, order), element)
        if len(kept) > many:
            kept.pop()
    return kept


# The refusal doesn't name the place: Python writes no number of more than some thousand digits as a text.
def nth(row, k, order):
    if k < 0 or k >= len(row):
        raise NoPlace("the row has no such place")
    return stable(row, order)[k]


# Those that an element has to be put ahead of are those it makes a turned pair with. The k-th search is among k - 1
# elements and asks at most log(k): so by any function, all are within n log(n) questions and n (n - 1) / 2 pairs.
def turned_pairs(row, order):
    kept = []
    many = 0
    for element in row:
        place = upper(kept, element, order)
        many += len(kept) - place
        kept.insert(place, element)
    return many


# Of each length, from 0 on, the places whose last element stands ahead of, or is like, the last one of any other
# such places so far: so these last elements stand in order, and can be searched.
def rising(row, order):
    longest = [[]]
    for place, element in enumerate(row):
        length = lower([row[places[-1]] for places in longest[1:]], element, order)
        longer = longest[length] + [place]
        longest = longest[:length + 1] + [longer] + longest[length + 2:]
    return longest[-1]
