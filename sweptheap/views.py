"""The calls that tell what there is and change nothing."""

from sweptheap.heap import HeapObject, is_register
from sweptheap.refusals import OUT_OF_RANGE


def told_value(value):
    """What is told of one value: its sort, then, but for nothing, a list of one with its length ahead."""
    if value is None:
        return [0]
    if isinstance(value, HeapObject):
        return [2, 1, len(value.slots)]
    return [1, 1, value]


def look_at(heap, r):
    if not is_register(r):
        return [OUT_OF_RANGE]
    return told_value(heap.registers[r])
