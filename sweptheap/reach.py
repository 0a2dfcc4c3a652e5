"""What is come to from values, gone through by loops."""

from sweptheap.heap import HeapObject


def meet(values, met, seen):
    """Appends to met the objects among the values whose cells aren't seen yet."""
    for value in values:
        if isinstance(value, HeapObject) and value.cell not in seen:
            seen[value.cell] = True
            met.append(value)


def objects_met(values):
    """The objects come to from the values, in the order in which they are first met."""
    met = []
    seen = {}
    meet(values, met, seen)
    place = 0
    while place < len(met):
        meet(met[place].slots, met, seen)
        place += 1
    return met
