"""The interface: a list of calls in, a list of their answers out."""

from sweptheap.heap import Heap
from sweptheap.moves import copy_value, get_from_slot, new_object, put_into_slot, set_value
from sweptheap.views import look_at

NEW = 0
GET = 1
PUT = 2
NUM = 3
CLEAR = 4
COPY = 5
LOOK = 6

# How many whole numbers stand behind a call's own, by that number.
GIVEN_COUNTS = (2, 3, 3, 2, 1, 2, 1)


def answer_call(heap, call, given):
    """The numbers that one call answers, without how many they are."""
    if call == NEW:
        return new_object(heap, given[0], given[1])
    if call == GET:
        return get_from_slot(heap, given[0], given[1], given[2])
    if call == PUT:
        return put_into_slot(heap, given[0], given[1], given[2])
    if call == NUM:
        return set_value(heap, given[0], given[1])
    if call == CLEAR:
        return set_value(heap, given[0], None)
    if call == COPY:
        return copy_value(heap, given[0], given[1])
    return look_at(heap, given[0])


def answers(calls):
    """For each call, in order: how many numbers it answers, then these."""
    heap = Heap()
    told = []
    place = 0
    while place < len(calls):
        call = calls[place]
        behind = place + 1 + GIVEN_COUNTS[call]
        answer = answer_call(heap, call, calls[place + 1:behind])
        told.append(len(answer))
        told.extend(answer)
        place = behind
    return told
