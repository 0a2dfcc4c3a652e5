"""The interface: a list of calls in, a list of their answers out."""

from sweptheap.heap import Heap
from sweptheap.moves import copy_value, get_from_slot, new_object, put_into_slot, set_value
from sweptheap.sweeper import begin_round, tell_phase, work_steps
from sweptheap.views import look_at, look_at_slot, tell_count, tell_same, tell_tree

NEW = 0
GET = 1
PUT = 2
NUM = 3
CLEAR = 4
COPY = 5
LOOK = 6
SLOT = 7
SAME = 8
TREE = 9
BEGIN = 10
WORK = 11
PHASE = 12

# How many whole numbers stand behind a call's own, by that number.
GIVEN_COUNTS = (2, 3, 3, 2, 1, 2, 1, 2, 2, 1, 0, 1, 0, 0)


def answer_move(heap, call, given):
    if call == NEW:
        return new_object(heap, given[0], given[1])
    if call == GET:
        return get_from_slot(heap, given[0], given[1], given[2])
    if call == PUT:
        return put_into_slot(heap, given[0], given[1], given[2])
    if call == NUM:
        return set_value(heap, given[0], given[1])
    if call == CLEAR:
        return set_value(heap, given[0], None)
    return copy_value(heap, given[0], given[1])


def answer_view(heap, call, given):
    if call == LOOK:
        return look_at(heap, given[0])
    if call == SLOT:
        return look_at_slot(heap, given[0], given[1])
    if call == SAME:
        return tell_same(heap, given[0], given[1])
    return tell_tree(heap, given[0])


def answer_round(heap, call, given):
    if call == BEGIN:
        return begin_round(heap)
    if call == WORK:
        return work_steps(heap, given[0])
    if call == PHASE:
        return tell_phase(heap)
    return tell_count(heap)


def answer_call(heap, call, given):
    """The numbers that one call answers, without how many they are."""
    if call <= COPY:
        return answer_move(heap, call, given)
    if call <= TREE:
        return answer_view(heap, call, given)
    return answer_round(heap, call, given)


def answers(calls):
    """For each call, in order: how many numbers it answers, then these."""
    heap = Heap()
    told = []
    place = 0
    while place < len(calls):
        call = calls[place]
        behind = place + 1 + GIVEN_COUNTS[call]
        answer = answer_call(heap, call, calls[place + 1:behind])
        told.append(len(answer))
        told.extend(answer)
        place = behind
    return told
