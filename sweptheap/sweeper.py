"""The sweeper: it takes back, step by step, what can't be come to any more.

While it's marking no register holds a white object: all are shaded when the round begins, and later only get and new
bring others. So hands can't put a white object into a black one, where no step would look for it again.
"""

from sweptheap.heap import BLACK, CELL_COUNT, GREY, HeapObject, IDLE, MARKING, SWEEPING, WHITE
from sweptheap.refusals import NOT_IDLE, OUT_OF_RANGE

MOST_STEPS = 1000


def shade(value):
    if isinstance(value, HeapObject) and value.colour == WHITE:
        value.colour = GREY


def shade_got(heap, value):
    """What get owes the sweeper for a value that it brings from a slot into a register."""
    if heap.phase == MARKING:
        shade(value)


def birth_colour(heap, cell):
    """The colour of an object that is new in this cell."""
    if heap.phase == MARKING:
        return BLACK
    if heap.phase == SWEEPING and cell >= heap.next_cell:
        return BLACK
    return WHITE


def begin_round(heap):
    if heap.phase != IDLE:
        return [NOT_IDLE]
    for value in heap.registers:
        shade(value)
    heap.phase = MARKING
    return [0]


def least_grey(heap):
    """The grey object in the least cell, or None."""
    for standing in heap.cells:
        if standing is not None and standing.colour == GREY:
            return standing
    return None


def mark_step(heap):
    grey = least_grey(heap)
    if grey is None:
        heap.phase = SWEEPING
        heap.next_cell = 0
        return
    grey.colour = BLACK
    for value in grey.slots:
        shade(value)


def sweep_step(heap):
    if heap.next_cell == CELL_COUNT:
        heap.phase = IDLE
        return
    standing = heap.cells[heap.next_cell]
    if standing is not None:
        if standing.colour == WHITE:
            heap.cells[heap.next_cell] = None
        else:
            standing.colour = WHITE
    heap.next_cell += 1


def work_steps(heap, n):
    if not 0 <= n <= MOST_STEPS:
        return [OUT_OF_RANGE]
    done = 0
    while done < n and heap.phase != IDLE:
        if heap.phase == MARKING:
            mark_step(heap)
        else:
            sweep_step(heap)
        done += 1
    return [done]


def tell_phase(heap):
    return [heap.phase]
