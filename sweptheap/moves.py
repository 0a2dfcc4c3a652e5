"""The calls that change what registers and slots hold."""

from sweptheap.heap import HeapObject, MOST_SLOTS, is_register, least_free_cell, slot_refusal
from sweptheap.refusals import NO_FREE_CELL, OUT_OF_RANGE
from sweptheap.sweeper import birth_colour, shade_got


def new_object(heap, r, n):
    if not is_register(r) or not 1 <= n <= MOST_SLOTS:
        return [OUT_OF_RANGE]
    cell = least_free_cell(heap)
    if cell is None:
        return [NO_FREE_CELL]
    made = HeapObject(n, cell, birth_colour(heap, cell))
    heap.cells[cell] = made
    heap.registers[r] = made
    return [0]


def get_from_slot(heap, d, r, k):
    if not is_register(d) or not is_register(r):
        return [OUT_OF_RANGE]
    refusal = slot_refusal(heap, r, k)
    if refusal is not None:
        return [refusal]
    value = heap.registers[r].slots[k]
    shade_got(heap, value)
    heap.registers[d] = value
    return [0]


def put_into_slot(heap, r, k, d):
    if not is_register(r) or not is_register(d):
        return [OUT_OF_RANGE]
    refusal = slot_refusal(heap, r, k)
    if refusal is not None:
        return [refusal]
    heap.registers[r].slots[k] = heap.registers[d]
    return [0]


def set_value(heap, r, value):
    if not is_register(r):
        return [OUT_OF_RANGE]
    heap.registers[r] = value
    return [0]


def copy_value(heap, r, d):
    if not is_register(r) or not is_register(d):
        return [OUT_OF_RANGE]
    heap.registers[r] = heap.registers[d]
    return [0]
