"""Heaps: rows in which no element at a place k from 1 on stands ahead of the one at (k - 1) // 2."""

from yourorder.errors import NoElement


def is_heap(row, order):
    for k in range(1, len(row)):
        if order(row[k], row[(k - 1) // 2]) < 0:
            return False
    return True


# The new element rises from the last place, which lies at most log(n + 1) steps below the first.
def push(heap, new, order):
    told = heap + [new]
    k = len(heap)
    while k > 0 and order(new, told[(k - 1) // 2]) < 0:
        told[k] = told[(k - 1) // 2]
        k = (k - 1) // 2
    told[k] = new
    return told


# The last element takes the place of the first: so no other place is left empty, and one element alone has to sink.
def pop(heap, order):
    if len(heap) == 0:
        raise NoElement("an empty heap has no first element")
    others = (heap[-1:] + heap[1:])[:-1]
    sink(others, 0, order)
    return (heap[0], others)


# From the last place that has a child down to the first, each element sinks into heaps that are there already. All
# the ways down together have fewer than n steps, of two questions each.
def heaped(row, order):
    told = list(row)
    for k in range(len(told) // 2 - 1, -1, -1):
        sink(told, k, order)
    return told


# Changes the row itself. Elements only change places and each step leads further down: so by any function nothing is
# lost, and there is an end.
def sink(row, k, order):
    child = child_ahead(row, k, order)
    while child < len(row) and order(row[child], row[k]) < 0:
        sinking = row[k]
        row[k] = row[child]
        row[child] = sinking
        k = child
        child = child_ahead(row, k, order)


# Tells a place beyond the row where there is no child.
def child_ahead(row, k, order):
    left = 2 * k + 1
    if left + 1 < len(row) and order(row[left + 1], row[left]) < 0:
        return left + 1
    return left
