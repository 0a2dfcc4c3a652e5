"""The calls begin, work, phase and count, and the sweeper step by step."""

import unittest

from tests.helper import (
    BUSY, DONE, FULL, IDLE, MARKING, MOST, NO, NOTHING, NO_OBJECT, NO_SLOT, SWEEPING, WRONG,
    begin, check, clear, copy, count, counted, get, look, looks, met, new, num, phase, put, same, slot, steps, thing,
    tree, work)

# The cells, and the step behind the last of them.
SWEEP = 65


def now(stage, used, live):
    return [(phase(), stage), (count(), counted(used, live))]


def step(stage, used, live):
    """One step, with what there is behind it."""
    return [(work(1), steps(1)), *now(stage, used, live)]


def rest(done, used, live):
    """The round to its end, of so many steps, with what there is behind it."""
    return [(work(1000), steps(done)), *now(IDLE, used, live)]


def whole_round(done, used, live):
    return [(begin(), DONE), *rest(done, used, live)]


def cut(r, k=0):
    """Takes out what's in a slot: register 7 has nothing in it whenever this is used."""
    return (put(r, k, 7), DONE)


def row(length):
    """Objects in cells 0, 1, .. each in a slot of the one before; the first is in r0, no other in any register."""
    pairs = [(new(0, 1), DONE), (copy(1, 0), DONE)]
    for link in range(length - 1):
        pairs += [(new(2, 1), DONE), (put(1, 0, 2), DONE), (copy(1, 2), DONE)]
    return [*pairs, (clear(1), DONE), (clear(2), DONE)]


class Begin(unittest.TestCase):
    def test_it_is_marking_then(self):
        check(self, (phase(), IDLE), (begin(), DONE), (phase(), MARKING))

    def test_refused_at_each_step_of_a_round(self):
        for n in range(1 + SWEEP):
            stage = MARKING if n < 1 else SWEEPING
            check(self, (begin(), DONE), (work(n), steps(n)), (phase(), stage), (begin(), BUSY), (phase(), stage),
                  (work(1000), steps(1 + SWEEP - n)), (phase(), IDLE), (begin(), DONE), (phase(), MARKING))

    def test_refused_while_marking_changes_nothing(self):
        check(self, (new(0, 1), DONE), (new(1, 1), DONE), (begin(), DONE), (begin(), BUSY), *step(MARKING, 2, 2),
              (begin(), BUSY), *step(MARKING, 2, 2), (begin(), BUSY), *step(SWEEPING, 2, 2), *rest(SWEEP, 2, 2))

    def test_refused_while_sweeping_changes_no_colour(self):
        # A shaded object would last through the second round.
        check(self, (new(0, 1), DONE), (begin(), DONE), (work(3), steps(3)), *now(SWEEPING, 1, 1), (begin(), BUSY),
              *now(SWEEPING, 1, 1), (clear(0), DONE), *rest(SWEEP - 1, 1, 0), *whole_round(1 + SWEEP, 0, 0))

    def test_what_is_in_any_register_is_shaded(self):
        for r in range(8):
            check(self, (new(r, 1), DONE), (begin(), DONE), (clear(r), DONE), *step(MARKING, 1, 0),
                  *step(SWEEPING, 1, 0), *rest(SWEEP, 1, 0), *whole_round(1 + SWEEP, 0, 0))

    def test_what_is_in_slots_is_not_shaded_yet(self):
        check(self, *row(2), (begin(), DONE), cut(0), *now(MARKING, 2, 1), *rest(2 + SWEEP, 1, 1))

    def test_numbers_and_nothing_in_registers(self):
        check(self, *[(num(r, r), DONE) for r in range(7)], *whole_round(1 + SWEEP, 0, 0), (look(6), [3, 1, 1, 6]))

    def test_a_second_and_a_third_round(self):
        check(self, *row(3), *whole_round(4 + SWEEP, 3, 3) * 3, (tree(0), met(["1"], ["2"], [None])))


class Work(unittest.TestCase):
    def test_while_idle(self):
        for n in (0, 1, 2, 130, 999, 1000):
            check(self, (work(n), steps(0)), (phase(), IDLE), *whole_round(1 + SWEEP, 0, 0), (work(n), steps(0)),
                  (phase(), IDLE))

    def test_wrong_numbers(self):
        for n in (1001, 1002, MOST - 1, MOST):
            check(self, (work(n), WRONG), *now(IDLE, 0, 0), (new(0, 1), DONE), (new(0, 1), DONE), (begin(), DONE),
                  (work(n), WRONG), *now(MARKING, 2, 1), *step(MARKING, 2, 1), *step(SWEEPING, 2, 1),
                  (work(n), WRONG), *now(SWEEPING, 2, 1), *step(SWEEPING, 1, 1), *rest(SWEEP - 1, 1, 1),
                  (work(n), WRONG))

    def test_no_steps(self):
        check(self, (new(0, 1), DONE), (begin(), DONE), (work(0), steps(0)), *now(MARKING, 1, 1), *step(MARKING, 1, 1),
              (work(0), steps(0)), *now(MARKING, 1, 1), *step(SWEEPING, 1, 1), (clear(0), DONE), (work(0), steps(0)),
              *now(SWEEPING, 1, 0), *rest(SWEEP, 1, 0))

    def test_many_steps_are_one_and_one(self):
        for n in range(3 + SWEEP):
            setup = [*row(2), (new(1, 1), DONE), (clear(1), DONE), (begin(), DONE)]
            stage = MARKING if n < 3 else SWEEPING
            left = now(stage, 3 if n < 6 else 2, 2)
            check(self, *setup, (work(n), steps(n)), *left, *rest(3 + SWEEP - n, 2, 2))
            check(self, *setup, *[(work(1), steps(1))] * n, *left, *rest(3 + SWEEP - n, 2, 2))

    def test_fewer_if_it_is_idle_before(self):
        for n in (66, 67, 1000):
            check(self, (begin(), DONE), (work(n), steps(66)), (phase(), IDLE))
        check(self, (begin(), DONE), (work(65), steps(65)), (phase(), SWEEPING), (work(2), steps(1)), (phase(), IDLE))

    def test_a_round_does_not_begin_by_itself(self):
        check(self, (new(0, 1), DONE), (clear(0), DONE), (work(1000), steps(0)), *now(IDLE, 1, 0))


class Count(unittest.TestCase):
    def test_no_object(self):
        check(self, (count(), [3, 0, 1, 0]), (num(0, 5), DONE), (count(), [3, 0, 1, 0]))

    def test_objects_in_registers(self):
        pairs = []
        for r in range(8):
            pairs += [(new(r, 8), DONE), (count(), counted(r + 1, r + 1))]
        for r in range(8):
            pairs += [(clear(r), DONE), (count(), counted(8, 7 - r))]
        check(self, *pairs)

    def test_an_object_in_several_registers_and_slots_counts_once(self):
        check(self, (new(0, 2), DONE), *[(copy(r, 0), DONE) for r in range(1, 7)], (put(0, 0, 0), DONE),
              (put(0, 1, 0), DONE), (count(), counted(1, 1)))

    def test_what_is_in_slots_is_live(self):
        check(self, *row(9), (count(), counted(9, 9)), (clear(0), DONE), (count(), counted(9, 0)))

    def test_a_ring_that_is_not_come_to_is_not_live(self):
        check(self, (new(0, 1), DONE), (new(1, 1), DONE), (put(0, 0, 1), DONE), (put(1, 0, 0), DONE), (clear(0), DONE),
              (count(), counted(2, 2)), (clear(1), DONE), (count(), counted(2, 0)), *whole_round(1 + SWEEP, 0, 0))

    def test_come_to_from_several_registers(self):
        check(self, *row(3), (new(1, 2), DONE), (get(2, 0, 0), DONE), (put(1, 1, 2), DONE), (count(), counted(4, 4)),
              (clear(0), DONE), (count(), counted(4, 3)), (clear(2), DONE), (count(), counted(4, 3)),
              (clear(1), DONE), (count(), counted(4, 0)))

    def test_64_objects_in_a_row(self):
        check(self, *row(64), (count(), counted(64, 64)), (clear(0), DONE), (count(), counted(64, 0)))

    def test_refused_objects_do_not_count(self):
        check(self, (new(8, 1), WRONG), (new(0, 9), WRONG), (new(0, 0), WRONG), (count(), counted(0, 0)))

    def test_phase_and_count_change_nothing(self):
        check(self, (new(0, 1), DONE), (new(0, 1), DONE), (begin(), DONE), *now(MARKING, 2, 1) * 3,
              (work(2), steps(2)), *now(SWEEPING, 2, 1) * 3, *rest(SWEEP, 1, 1), *now(IDLE, 1, 1) * 3)


class StepByStep(unittest.TestCase):
    def test_an_empty_heap(self):
        check(self, *now(IDLE, 0, 0), (begin(), DONE), *now(MARKING, 0, 0), *step(SWEEPING, 0, 0) * 65,
              *step(IDLE, 0, 0), (work(1), steps(0)), *now(IDLE, 0, 0))

    def test_all_is_live(self):
        check(self, *[(new(r, 1), DONE) for r in range(7)], (begin(), DONE), *now(MARKING, 7, 7),
              *step(MARKING, 7, 7) * 7, *step(SWEEPING, 7, 7) * 65, *step(IDLE, 7, 7), (work(1), steps(0)))

    def test_nothing_is_live(self):
        check(self, *[(new(0, 1), DONE)] * 5, (clear(0), DONE), (begin(), DONE), *now(MARKING, 5, 0),
              *step(SWEEPING, 5, 0), *step(SWEEPING, 4, 0), *step(SWEEPING, 3, 0), *step(SWEEPING, 2, 0),
              *step(SWEEPING, 1, 0), *step(SWEEPING, 0, 0) * 60, *step(IDLE, 0, 0))

    def test_some_are_live(self):
        check(self, (new(7, 1), DONE), (new(1, 1), DONE), (new(7, 1), DONE), (new(3, 1), DONE), (clear(7), DONE),
              (begin(), DONE), *step(MARKING, 4, 2) * 2, *step(SWEEPING, 4, 2), *step(SWEEPING, 3, 2) * 2,
              *step(SWEEPING, 2, 2) * 62, *step(IDLE, 2, 2), *looks(NOTHING, thing(1), NOTHING, thing(1)))

    def test_a_row_of_objects(self):
        check(self, *row(5), (begin(), DONE), *step(MARKING, 5, 5) * 5, *step(SWEEPING, 5, 5) * 65, *step(IDLE, 5, 5),
              (tree(0), met(["1"], ["2"], ["3"], ["4"], [None])))

    def test_an_object_in_a_slot_of_its_own(self):
        check(self, (new(0, 1), DONE), (put(0, 0, 0), DONE), (begin(), DONE), *step(MARKING, 1, 1),
              *step(SWEEPING, 1, 1), *rest(SWEEP, 1, 1), (tree(0), met(["0"])))

    def test_64_objects_all_live(self):
        for n in range(131):
            stage = MARKING if n < 65 else SWEEPING if n < 130 else IDLE
            check(self, *row(64), (begin(), DONE), (work(n), steps(n)), *now(stage, 64, 64), *rest(130 - n, 64, 64))

    def test_64_objects_none_live(self):
        for n in range(67):
            stage = MARKING if n < 1 else SWEEPING if n < 66 else IDLE
            check(self, *row(64), (clear(0), DONE), (begin(), DONE), (work(n), steps(n)),
                  *now(stage, min(64, 65 - n) if n < 65 else 0, 0), *rest(66 - n, 0, 0))

    def test_64_objects_only_the_last_live(self):
        check(self, *[(new(0, 1), DONE)] * 64, (begin(), DONE), *step(MARKING, 64, 1), *step(SWEEPING, 64, 1),
              (work(62), steps(62)), *now(SWEEPING, 2, 1), *step(SWEEPING, 1, 1), *step(SWEEPING, 1, 1),
              *step(IDLE, 1, 1))

    def test_64_objects_only_the_last_lost(self):
        check(self, *row(63), (new(1, 1), DONE), (clear(1), DONE), (begin(), DONE), (work(64), steps(64)),
              *now(SWEEPING, 64, 63), (work(63), steps(63)), *now(SWEEPING, 64, 63), *step(SWEEPING, 63, 63),
              *step(IDLE, 63, 63))


class OrderOfMarking(unittest.TestCase):
    """What is taken out of a slot is gone just if that slot's object is not black yet."""

    def test_the_least_cell_comes_first(self):
        check(self, (new(0, 1), DONE), (new(1, 1), DONE), (new(2, 1), DONE), (put(0, 0, 2), DONE), (clear(2), DONE),
              (begin(), DONE), *step(MARKING, 3, 3), cut(0), *now(MARKING, 3, 2), *rest(3 + SWEEP, 3, 2))

    def test_a_greater_cell_comes_later(self):
        check(self, (new(0, 1), DONE), (new(1, 1), DONE), (new(2, 1), DONE), (put(1, 0, 2), DONE), (clear(2), DONE),
              (begin(), DONE), *step(MARKING, 3, 3), cut(1), *now(MARKING, 3, 2), *rest(2 + SWEEP, 2, 2))

    def test_the_cell_counts_and_not_the_register(self):
        check(self, (new(6, 1), DONE), (new(0, 1), DONE), (new(2, 1), DONE), (put(6, 0, 2), DONE), (clear(2), DONE),
              (begin(), DONE), *step(MARKING, 3, 3), cut(6), *now(MARKING, 3, 2), *rest(3 + SWEEP, 3, 2))

    def test_a_lesser_cell_shaded_later_comes_next(self):
        # Cell 1 holds cell 0, which holds cell 3; cell 2 holds cell 4.
        check(self, (new(2, 1), DONE), (new(0, 1), DONE), (put(0, 0, 2), DONE), (new(1, 1), DONE), (new(3, 1), DONE),
              (put(2, 0, 3), DONE), (new(4, 1), DONE), (put(1, 0, 4), DONE), (clear(2), DONE), (clear(3), DONE),
              (clear(4), DONE), (begin(), DONE), *step(MARKING, 5, 5), *step(MARKING, 5, 5), cut(1),
              *now(MARKING, 5, 4), *rest(3 + SWEEP, 4, 4))

    def test_all_slots_of_an_object_are_shaded_in_one_step(self):
        pairs = [(new(0, 8), DONE)]
        for k in range(8):
            pairs += [(new(1, 1), DONE), (put(0, k, 1), DONE)]
        check(self, *pairs, (clear(1), DONE), (begin(), DONE), *step(MARKING, 9, 9), *[cut(0, k) for k in range(8)],
              *now(MARKING, 9, 1), *rest(9 + SWEEP, 9, 1), *whole_round(2 + SWEEP, 1, 1))


class NewObjects(unittest.TestCase):
    def test_while_marking(self):
        check(self, (begin(), DONE), (new(0, 1), DONE), *now(MARKING, 1, 1), *step(SWEEPING, 1, 1) * 65,
              *step(IDLE, 1, 1), (look(0), thing(1)))

    def test_while_marking_and_lost(self):
        check(self, (begin(), DONE), (new(0, 1), DONE), (clear(0), DONE), *step(SWEEPING, 1, 0),
              *step(SWEEPING, 1, 0), *rest(SWEEP - 1, 1, 0), *whole_round(1 + SWEEP, 0, 0))

    def test_while_marking_with_objects_put_into_it(self):
        check(self, *row(2), (begin(), DONE), (new(1, 2), DONE), (get(2, 0, 0), DONE), (put(1, 0, 0), DONE),
              (put(1, 1, 2), DONE), cut(0), (clear(0), DONE), (clear(2), DONE), *now(MARKING, 3, 3),
              *step(MARKING, 3, 3) * 2, *step(SWEEPING, 3, 3), *rest(SWEEP, 3, 3),
              (tree(1), met(["1", "2"], [None], [None])))

    def test_while_sweeping_in_a_cell_that_has_not_been_swept(self):
        check(self, (begin(), DONE), *step(SWEEPING, 0, 0), (new(0, 1), DONE), *now(SWEEPING, 1, 1),
              *step(SWEEPING, 1, 1) * 64, *step(IDLE, 1, 1), (look(0), thing(1)))

    def test_while_sweeping_in_the_very_next_cell(self):
        # Cells 0 to 2 are kept, so the fourth object stands in cell 3.
        for n in range(4):
            check(self, *row(3), (begin(), DONE), (work(4 + n), steps(4 + n)), *now(SWEEPING, 3, 3), (new(1, 1), DONE),
                  *now(SWEEPING, 4, 4), *rest(SWEEP - n, 4, 4), *whole_round(5 + SWEEP, 4, 4))

    def test_lost_in_a_cell_that_had_not_been_swept(self):
        check(self, (begin(), DONE), *step(SWEEPING, 0, 0), (new(0, 1), DONE), (clear(0), DONE), *step(SWEEPING, 1, 0),
              *rest(SWEEP - 1, 1, 0), *whole_round(1 + SWEEP, 0, 0))

    def test_while_sweeping_in_a_cell_that_has_been_swept(self):
        check(self, (begin(), DONE), *step(SWEEPING, 0, 0) * 2, (new(0, 1), DONE), *now(SWEEPING, 1, 1),
              *step(SWEEPING, 1, 1) * 63, *step(IDLE, 1, 1), (look(0), thing(1)))

    def test_lost_in_a_cell_that_had_been_swept(self):
        # A black one would last through the second round.
        for n in range(1, 65):
            check(self, (begin(), DONE), (work(1 + n), steps(1 + n)), (new(0, 1), DONE), (clear(0), DONE),
                  *rest(SWEEP - n, 1, 0), *whole_round(1 + SWEEP, 0, 0))

    def test_kept_in_a_cell_that_had_been_swept(self):
        # One that is not white would not be marked in the second round, and what it holds would be lost.
        check(self, (begin(), DONE), (work(2), steps(2)), (new(0, 1), DONE), *rest(SWEEP - 1, 1, 1), (new(1, 1), DONE),
              (put(0, 0, 1), DONE), (clear(1), DONE), *whole_round(3 + SWEEP, 2, 2))

    def test_one_in_a_swept_cell_and_one_in_the_next(self):
        check(self, (begin(), DONE), (work(2), steps(2)), (new(0, 1), DONE), (new(1, 1), DONE), *step(SWEEPING, 2, 2),
              *rest(SWEEP - 2, 2, 2), *whole_round(3 + SWEEP, 2, 2))

    def test_while_idle_and_lost_before_the_round(self):
        check(self, (new(0, 1), DONE), (clear(0), DONE), (begin(), DONE), *step(SWEEPING, 1, 0), *step(SWEEPING, 0, 0))

    def test_while_idle_between_two_rounds(self):
        check(self, *whole_round(1 + SWEEP, 0, 0), (new(0, 1), DONE), (clear(0), DONE), *whole_round(1 + SWEEP, 0, 0))


class Got(unittest.TestCase):
    def test_while_marking_and_then_taken_out_of_the_slot(self):
        check(self, *row(2), (begin(), DONE), (get(1, 0, 0), DONE), cut(0), *now(MARKING, 2, 2),
              *step(MARKING, 2, 2) * 2, *step(SWEEPING, 2, 2) * 65, *step(IDLE, 2, 2), *looks(thing(1), thing(1)))

    def test_while_marking_with_what_is_in_its_slots(self):
        check(self, *row(4), (begin(), DONE), (get(1, 0, 0), DONE), (get(2, 1, 0), DONE), cut(0), cut(1),
              (clear(1), DONE),
              *now(MARKING, 4, 3), *rest(5 + SWEEP, 4, 3), (tree(2), met(["1"], [None])), *whole_round(4 + SWEEP, 3, 3))

    def test_while_marking_and_then_lost(self):
        check(self, *row(2), (begin(), DONE), (get(1, 0, 0), DONE), cut(0), (clear(1), DONE), *now(MARKING, 2, 1),
              *rest(3 + SWEEP, 2, 1), *whole_round(2 + SWEEP, 1, 1))

    def test_into_the_register_of_the_object_itself(self):
        check(self, *row(2), (begin(), DONE), (get(0, 0, 0), DONE), *now(MARKING, 2, 1), *rest(3 + SWEEP, 2, 1),
              *whole_round(2 + SWEEP, 1, 1), (look(0), thing(1)))

    def test_a_black_object_got_again_is_not_marked_again(self):
        check(self, (new(0, 1), DONE), (put(0, 0, 0), DONE), (begin(), DONE), *step(MARKING, 1, 1),
              (get(1, 0, 0), DONE),
              *step(SWEEPING, 1, 1), *rest(SWEEP, 1, 1))

    def test_numbers_and_nothing_got_while_marking(self):
        check(self, (new(0, 2), DONE), (num(1, 1), DONE), (put(0, 0, 1), DONE), (begin(), DONE), (get(2, 0, 0), DONE),
              (get(3, 0, 1), DONE), *rest(2 + SWEEP, 1, 1), *looks(thing(2), [3, 1, 1, 1], [3, 1, 1, 1], NOTHING))

    def test_while_idle_it_is_not_shaded(self):
        check(self, *row(2), (get(1, 0, 0), DONE), cut(0), (clear(1), DONE), *whole_round(2 + SWEEP, 1, 1))

    def test_while_sweeping_it_is_not_shaded(self):
        # A shaded object would last through the second round.
        for n in range(65):
            check(self, *row(2), (begin(), DONE), (work(3 + n), steps(3 + n)), *now(SWEEPING, 2, 2),
                  (get(1, 0, 0), DONE), cut(0), (clear(1), DONE), *rest(SWEEP - n, 2, 1), *whole_round(2 + SWEEP, 1, 1))

    def test_a_refused_get_shades_nothing(self):
        check(self, *row(2), (num(1, 1), DONE), (begin(), DONE), (get(8, 0, 0), WRONG), (get(MOST, 0, 0), WRONG),
              (get(2, 8, 0), WRONG), (get(2, 0, 1), NO_SLOT), (get(2, 1, 0), NO_OBJECT), cut(0), *rest(2 + SWEEP, 1, 1))

    def test_only_get_shades(self):
        check(self, *row(2), (begin(), DONE), (slot(0, 0), thing(1)), (look(0), thing(1)),
              (tree(0), met(["1"], [None])), (same(0, 1), NO), (count(), counted(2, 2)), (copy(1, 0), DONE),
              (put(0, 0, 1), DONE),
              *rest(2 + SWEEP, 1, 1))


class PutWhileItWorks(unittest.TestCase):
    # Cell 0 in r0; cell 1 in r1, with cell 2 in its slot.
    SETUP = [(new(0, 1), DONE), (new(1, 1), DONE), (new(2, 1), DONE), (put(1, 0, 2), DONE), (clear(2), DONE)]
    MOVE = [(get(2, 1, 0), DONE), (put(0, 0, 2), DONE), cut(1), (clear(2), DONE)]
    MOVED = [(tree(0), met(["1"], [None])), (tree(1), met([None]))]

    def test_into_a_black_object_while_marking(self):
        check(self, *self.SETUP, (begin(), DONE), *step(MARKING, 3, 3), *self.MOVE, *now(MARKING, 3, 3),
              *step(MARKING, 3, 3) * 2, *step(SWEEPING, 3, 3) * 65, *step(IDLE, 3, 3), *self.MOVED)

    def test_at_each_step_of_a_round(self):
        for n in range(4 + SWEEP):
            stage = MARKING if n < 4 else SWEEPING
            check(self, *self.SETUP, (begin(), DONE), (work(n), steps(n)), *now(stage, 3, 3), *self.MOVE,
                  *now(stage, 3, 3), *rest(4 + SWEEP - n, 3, 3), *self.MOVED, *whole_round(4 + SWEEP, 3, 3),
                  *self.MOVED)

    def test_there_and_back_at_each_two_steps_of_marking(self):
        back = [(get(3, 0, 0), DONE), (put(1, 0, 3), DONE), cut(0), (clear(3), DONE)]
        for n in range(4):
            for more in range(5 - n):
                check(self, *self.SETUP, (begin(), DONE), (work(n), steps(n)), *self.MOVE, (work(more), steps(more)),
                      *back, *rest(4 + SWEEP - n - more, 3, 3), (tree(1), met(["1"], [None])), (tree(0), met([None])))

    def test_a_new_object_into_a_white_one_in_a_swept_cell(self):
        check(self, (new(0, 1), DONE), (begin(), DONE), (work(3), steps(3)), *now(SWEEPING, 1, 1), (new(1, 1), DONE),
              (put(0, 0, 1), DONE), (clear(1), DONE), *rest(SWEEP - 1, 2, 2), *whole_round(3 + SWEEP, 2, 2))

    def test_numbers_and_nothing(self):
        check(self, *row(2), (num(1, 6), DONE), (begin(), DONE), *step(MARKING, 2, 2), (put(0, 0, 1), DONE),
              *now(MARKING, 2, 1), *rest(2 + SWEEP, 2, 1), (slot(0, 0), [3, 1, 1, 6]), *whole_round(2 + SWEEP, 1, 1))


class Lost(unittest.TestCase):
    def test_while_marking_and_not_shaded_yet(self):
        check(self, *row(3), (begin(), DONE), cut(0), *step(MARKING, 3, 1), *step(SWEEPING, 3, 1),
              *step(SWEEPING, 3, 1),
              *step(SWEEPING, 2, 1), *step(SWEEPING, 1, 1), *rest(SWEEP - 3, 1, 1))

    def test_while_marking_and_shaded(self):
        check(self, *row(3), (begin(), DONE), *step(MARKING, 3, 3), cut(0), *step(MARKING, 3, 1), *step(MARKING, 3, 1),
              *step(SWEEPING, 3, 1), *rest(SWEEP, 3, 1), *whole_round(2 + SWEEP, 1, 1))

    def test_while_sweeping(self):
        for n in range(65):
            check(self, *row(3), (begin(), DONE), (work(4 + n), steps(4 + n)), cut(0), *now(SWEEPING, 3, 1),
                  *rest(SWEEP - n, 3, 1), (begin(), DONE), *step(MARKING, 3, 1), *step(SWEEPING, 3, 1),
                  *step(SWEEPING, 3, 1), *step(SWEEPING, 2, 1), *step(SWEEPING, 1, 1), *rest(SWEEP - 3, 1, 1))

    def test_while_idle(self):
        check(self, *row(3), *whole_round(4 + SWEEP, 3, 3), cut(0), *now(IDLE, 3, 1), *whole_round(2 + SWEEP, 1, 1))


class TakenBack(unittest.TestCase):
    def test_a_cell_is_the_least_free_one_for_the_next_new(self):
        # In cell 1 the new object is met by the second step of sweeping, in cell 3 it would be by the fourth.
        check(self, (new(0, 1), DONE), (new(1, 1), DONE), (new(2, 1), DONE), (clear(1), DONE),
              *whole_round(3 + SWEEP, 2, 2),
              (new(1, 1), DONE), *now(IDLE, 3, 3), (clear(1), DONE), (begin(), DONE), *step(MARKING, 3, 2) * 2,
              *step(SWEEPING, 3, 2) * 2, *step(SWEEPING, 2, 2), *rest(SWEEP - 2, 2, 2))

    def test_the_lesser_of_two_cells_is_taken_first(self):
        check(self, *[(new(r, 1), DONE) for r in range(5)], (clear(1), DONE), (clear(3), DONE),
              *whole_round(4 + SWEEP, 3, 3),
              (new(1, 1), DONE), (new(3, 1), DONE), (clear(1), DONE), (begin(), DONE), (work(5), steps(5)),
              *now(SWEEPING, 5, 4), *step(SWEEPING, 5, 4), *step(SWEEPING, 4, 4), *rest(SWEEP - 2, 4, 4))

    def test_a_new_object_there_has_nothing_in_its_slots_and_is_another(self):
        check(self, (new(0, 2), DONE), (num(1, 5), DONE), (put(0, 0, 1), DONE), (clear(0), DONE),
              *whole_round(1 + SWEEP, 0, 0), (new(0, 3), DONE), (tree(0), met([None, None, None])), *now(IDLE, 1, 1))

    def test_64_objects_a_round_and_then_new_again(self):
        check(self, *[(new(0, 1), DONE)] * 64, (new(1, 1), FULL), (clear(0), DONE), (new(1, 1), FULL),
              *now(IDLE, 64, 0),
              *whole_round(1 + SWEEP, 0, 0), *[(new(0, 2), DONE)] * 64, (new(1, 2), FULL), *now(IDLE, 64, 1),
              *whole_round(2 + SWEEP, 1, 1), *[(new(1, 3), DONE)] * 63, (new(1, 3), FULL), (look(0), thing(2)))

    def test_64_live_objects_and_a_round_leave_no_free_cell(self):
        check(self, *row(64), (new(1, 1), FULL), *whole_round(130, 64, 64), (new(1, 1), FULL), cut(0),
              (new(1, 1), FULL),
              *whole_round(2 + SWEEP, 1, 1), (new(1, 1), DONE), *now(IDLE, 2, 2))

    def test_refused_until_the_first_cell_is_swept(self):
        check(self, *[(new(0, 1), DONE)] * 64, (begin(), DONE), (new(1, 1), FULL), *step(MARKING, 64, 1),
              (new(1, 1), FULL),
              *step(SWEEPING, 64, 1), (new(1, 1), FULL), (look(1), NOTHING), *step(SWEEPING, 63, 1), (new(1, 1), DONE),
              (new(2, 1), FULL), *now(SWEEPING, 64, 2), (clear(1), DONE), *step(SWEEPING, 63, 1), *rest(63, 2, 1),
              *whole_round(2 + SWEEP, 1, 1))

    def test_a_lost_object_with_a_live_one_in_its_slot(self):
        check(self, (new(0, 1), DONE), (new(1, 1), DONE), (put(0, 0, 1), DONE), (clear(0), DONE),
              *whole_round(2 + SWEEP, 1, 1), (tree(1), met([None])))

    def test_a_lost_object_with_a_gone_one_in_its_slot(self):
        # The holder, in cell 1, stands there a step longer than what it holds, in cell 0; a new object comes between.
        check(self, (new(0, 1), DONE), (new(1, 1), DONE), (put(1, 0, 0), DONE), (clear(0), DONE), (clear(1), DONE),
              (begin(), DONE), (work(2), steps(2)), *now(SWEEPING, 1, 0), (new(0, 2), DONE), *step(SWEEPING, 1, 1),
              *rest(SWEEP - 2, 1, 1), *whole_round(2 + SWEEP, 1, 1), (tree(0), met([None, None])))


if __name__ == "__main__":
    unittest.main()
