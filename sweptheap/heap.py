"""The state that calls work on: cells with objects in them, registers, and how far the sweeper is.

A value is None (nothing), an int (a number) or a HeapObject.
"""

from sweptheap.refusals import NO_OBJECT, NO_SUCH_SLOT

CELL_COUNT = 64
REGISTER_COUNT = 8
MOST_SLOTS = 8

WHITE = 0
GREY = 1
BLACK = 2

IDLE = 0
MARKING = 1
SWEEPING = 2


class HeapObject:
    """An object: two of them are the same only if they are one."""

    def __init__(self, slot_count, cell, colour):
        self.slots = [None] * slot_count
        self.cell = cell
        self.colour = colour


class Heap:
    """The state before the first call: all cells free, nothing in any register, idle."""

    def __init__(self):
        self.cells = [None] * CELL_COUNT
        self.registers = [None] * REGISTER_COUNT
        self.phase = IDLE
        # While it's sweeping: the cells below this one have been swept in this round.
        self.next_cell = 0


def is_register(number):
    return 0 <= number < REGISTER_COUNT


def least_free_cell(heap):
    """The number of the least free cell, or None."""
    for cell in range(CELL_COUNT):
        if heap.cells[cell] is None:
            return cell
    return None


def slot_refusal(heap, r, k):
    """The refusal that is due for slot k of the object in r, or None."""
    holder = heap.registers[r]
    if not isinstance(holder, HeapObject):
        return NO_OBJECT
    if not 0 <= k < len(holder.slots):
        return NO_SUCH_SLOT
    return None
