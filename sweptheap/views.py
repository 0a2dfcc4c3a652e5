"""The calls that tell what there is and change nothing."""

from sweptheap.heap import HeapObject, is_register, slot_refusal
from sweptheap.reach import objects_met
from sweptheap.refusals import OUT_OF_RANGE


def told_value(value):
    """What is told of one value: its sort, then, but for nothing, a list of one with its length ahead."""
    if value is None:
        return [0]
    if isinstance(value, HeapObject):
        return [2, 1, len(value.slots)]
    return [1, 1, value]


def look_at(heap, r):
    if not is_register(r):
        return [OUT_OF_RANGE]
    return told_value(heap.registers[r])


def look_at_slot(heap, r, k):
    if not is_register(r):
        return [OUT_OF_RANGE]
    refusal = slot_refusal(heap, r, k)
    if refusal is not None:
        return [refusal]
    return told_value(heap.registers[r].slots[k])


def tell_same(heap, r, d):
    if not is_register(r) or not is_register(d):
        return [OUT_OF_RANGE]
    if heap.registers[r] == heap.registers[d]:
        return [1]
    return [0]


def told_in_tree(value, places):
    """The two numbers that tree tells of one slot's value; places has, by its cell, which object of these one is."""
    if value is None:
        return [0, 0]
    if isinstance(value, HeapObject):
        return [2, places[value.cell]]
    return [1, value]


def tell_tree(heap, r):
    if not is_register(r):
        return [OUT_OF_RANGE]
    met = objects_met([heap.registers[r]])
    places = {}
    for place in range(len(met)):
        places[met[place].cell] = place
    told = []
    for standing in met:
        told.append(len(standing.slots))
        for value in standing.slots:
            told.extend(told_in_tree(value, places))
    return [len(met), len(told)] + told


def tell_count(heap):
    used = len([standing for standing in heap.cells if standing is not None])
    live = len(objects_met(heap.registers))
    return [used, 1, live]
