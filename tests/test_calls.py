"""The calls new, get, put, num, clear, copy and look, at ordinary inputs and at the edges that the document names."""

import unittest

from tests.helper import (
    DONE, FULL, LEAST, MOST, NOTHING, NO_OBJECT, NO_SLOT, WRONG,
    check, clear, copy, get, look, looks, new, num, number, put, thing)


class BeforeTheFirstCall(unittest.TestCase):
    def test_nothing_is_in_any_register(self):
        check(self, *looks(*[NOTHING] * 8))

    def test_no_register_has_an_object(self):
        for r in range(8):
            check(self, (get(0, r, 0), NO_OBJECT), (put(r, 0, 0), NO_OBJECT))


class New(unittest.TestCase):
    def test_each_register_and_each_count_of_slots(self):
        for r in range(8):
            for n in range(1, 9):
                seen = [NOTHING] * 8
                seen[r] = thing(n)
                check(self, (new(r, n), DONE), *looks(*seen))

    def test_nothing_is_in_any_slot(self):
        for n in range(1, 9):
            gets = []
            for k in range(n):
                gets += [(num(1, 5), DONE), (get(1, 0, k), DONE), (look(1), NOTHING)]
            check(self, (new(0, n), DONE), *gets, (get(1, 0, n), NO_SLOT))

    def test_takes_the_place_of_what_was_there(self):
        check(self, (num(3, 9), DONE), (new(3, 2), DONE), (look(3), thing(2)),
              (new(3, 7), DONE), (look(3), thing(7)))

    def test_each_new_object_is_another(self):
        check(self, (new(0, 1), DONE), (new(1, 1), DONE), (num(2, 4), DONE), (put(0, 0, 2), DONE),
              (get(3, 1, 0), DONE), (look(3), NOTHING), (get(3, 0, 0), DONE), (look(3), number(4)))

    def test_count_of_slots_out_of_range(self):
        for n in (0, 9, 10, 64, MOST):
            check(self, (new(0, n), WRONG), (look(0), NOTHING))

    def test_wrong_register(self):
        for r in (8, 9, 64, MOST):
            check(self, (new(r, 1), WRONG), *looks(*[NOTHING] * 8))
        check(self, (new(8, 9), WRONG), (new(8, 0), WRONG))


class FullHeap(unittest.TestCase):
    def test_64_objects_and_no_more(self):
        check(self, *[(new(0, 1), DONE)] * 64, (new(0, 1), FULL))

    def test_refused_for_want_of_a_cell_changes_nothing(self):
        check(self, *[(new(0, 3), DONE)] * 64, (num(1, 6), DONE),
              (new(0, 5), FULL), (look(0), thing(3)), (new(1, 5), FULL), (look(1), number(6)),
              (new(2, 5), FULL), (look(2), NOTHING))

    def test_wrong_arguments_come_before_the_want_of_a_cell(self):
        check(self, *[(new(0, 1), DONE)] * 64, (new(8, 1), WRONG), (new(0, 0), WRONG), (new(0, 9), WRONG),
              (new(MOST, MOST), WRONG), (new(7, 8), FULL))

    def test_refused_objects_take_no_cell(self):
        check(self, (new(8, 1), WRONG), (new(0, 0), WRONG), (new(0, 9), WRONG),
              *[(new(0, 1), DONE)] * 64, (new(0, 1), FULL))

    def test_losing_objects_frees_no_cell_without_a_round(self):
        check(self, *[(new(0, 1), DONE)] * 64, (clear(0), DONE), (new(0, 1), FULL), (look(0), NOTHING))

    def test_the_other_calls_still_work(self):
        check(self, *[(new(0, 2), DONE)] * 64, (num(1, 8), DONE), (put(0, 1, 1), DONE), (get(2, 0, 1), DONE),
              (copy(3, 0), DONE), *looks(thing(2), number(8), number(8), thing(2)))


class GetAndPut(unittest.TestCase):
    def test_a_number_goes_in_and_out_of_each_slot(self):
        pairs = [(new(0, 8), DONE)]
        for k in range(8):
            pairs += [(num(1, 100 + k), DONE), (put(0, k, 1), DONE)]
        for k in range(8):
            pairs += [(get(2, 0, k), DONE), (look(2), number(100 + k))]
        check(self, *pairs, (look(0), thing(8)), (look(1), number(107)))

    def test_with_each_register_as_each_operand(self):
        for r in range(8):
            for d in range(8):
                if r != d:
                    check(self, (new(r, 2), DONE), (num(d, 7), DONE), (put(r, 1, d), DONE), (clear(d), DONE),
                          (get(d, r, 1), DONE), (look(d), number(7)), (look(r), thing(2)))

    def test_put_leaves_the_other_slots(self):
        check(self, (new(0, 3), DONE), (num(1, 1), DONE), (put(0, 1, 1), DONE), (get(2, 0, 0), DONE),
              (look(2), NOTHING), (get(2, 0, 2), DONE), (look(2), NOTHING), (get(2, 0, 1), DONE), (look(2), number(1)))

    def test_put_of_nothing_empties_the_slot(self):
        check(self, (new(0, 1), DONE), (num(1, 1), DONE), (put(0, 0, 1), DONE), (put(0, 0, 2), DONE),
              (get(1, 0, 0), DONE), (look(1), NOTHING))

    def test_a_slot_keeps_its_value_when_the_register_changes(self):
        check(self, (new(0, 1), DONE), (num(1, 5), DONE), (put(0, 0, 1), DONE), (num(1, 6), DONE),
              (get(2, 0, 0), DONE), (look(2), number(5)), (look(1), number(6)))

    def test_get_into_the_register_of_the_object(self):
        check(self, (new(0, 1), DONE), (num(1, 5), DONE), (put(0, 0, 1), DONE), (get(0, 0, 0), DONE),
              (look(0), number(5)))

    def test_an_object_in_a_slot_of_another(self):
        check(self, (new(0, 2), DONE), (new(1, 3), DONE), (num(2, 42), DONE), (put(1, 2, 2), DONE),
              (put(0, 1, 1), DONE), (clear(1), DONE), (get(3, 0, 1), DONE), (look(3), thing(3)),
              (get(4, 3, 2), DONE), (look(4), number(42)))

    def test_an_object_in_a_slot_of_its_own(self):
        check(self, (new(0, 2), DONE), (put(0, 1, 0), DONE), (get(1, 0, 1), DONE), (look(1), thing(2)),
              (num(2, 9), DONE), (put(1, 0, 2), DONE), (get(3, 0, 0), DONE), (look(3), number(9)),
              (get(0, 0, 1), DONE), (get(0, 0, 1), DONE), (get(0, 0, 0), DONE), (look(0), number(9)))

    def test_two_objects_in_slots_of_one_another(self):
        check(self, (new(0, 1), DONE), (new(1, 2), DONE), (put(0, 0, 1), DONE), (put(1, 0, 0), DONE),
              (clear(1), DONE), (get(2, 0, 0), DONE), (look(2), thing(2)), (get(3, 2, 0), DONE), (look(3), thing(1)),
              (get(4, 3, 0), DONE), (look(4), thing(2)))

    def test_the_slot_behind_the_last(self):
        for n in range(1, 9):
            check(self, (new(0, n), DONE), (num(1, 3), DONE), (put(0, n - 1, 1), DONE), (put(0, n, 1), NO_SLOT),
                  (get(2, 0, n - 1), DONE), (look(2), number(3)), (get(1, 0, n), NO_SLOT), (look(1), number(3)),
                  (get(1, 0, MOST), NO_SLOT), (put(0, MOST, 1), NO_SLOT), (look(1), number(3)), (look(0), thing(n)))

    def test_a_number_or_nothing_is_no_object(self):
        check(self, (num(0, 1), DONE), (get(1, 0, 0), NO_OBJECT), (put(0, 0, 1), NO_OBJECT),
              (get(1, 2, 0), NO_OBJECT), (put(2, 0, 1), NO_OBJECT), *looks(number(1), NOTHING, NOTHING))

    def test_an_object_in_the_other_register_does_not_help(self):
        check(self, (new(1, 1), DONE), (get(1, 0, 0), NO_OBJECT), (put(0, 0, 1), NO_OBJECT), (look(1), thing(1)))


class WrongOperandsOfGetAndPut(unittest.TestCase):
    def test_wrong_registers(self):
        for wrong in (8, 9, MOST):
            check(self, (new(0, 1), DONE), (get(wrong, 0, 0), WRONG), (get(0, wrong, 0), WRONG),
                  (get(wrong, wrong, 0), WRONG), (put(wrong, 0, 0), WRONG), (put(0, 0, wrong), WRONG),
                  (put(wrong, 0, wrong), WRONG), (look(0), thing(1)), (get(1, 0, 0), DONE), (look(1), NOTHING))

    def test_a_wrong_register_comes_before_a_missing_object(self):
        check(self, (get(8, 0, 0), WRONG), (get(0, 8, 0), WRONG), (put(8, 0, 0), WRONG), (put(0, 0, 8), WRONG))

    def test_a_wrong_register_comes_before_a_missing_slot(self):
        check(self, (new(0, 1), DONE), (get(8, 0, 1), WRONG), (put(0, 1, 8), WRONG))

    def test_a_missing_object_comes_before_a_missing_slot(self):
        check(self, (get(0, 1, 8), NO_OBJECT), (put(0, MOST, 1), NO_OBJECT), (num(0, 5), DONE),
              (get(0, 0, 8), NO_OBJECT), (put(0, MOST, 1), NO_OBJECT))

    def test_all_three_at_once(self):
        check(self, (get(8, 8, MOST), WRONG), (put(8, MOST, 8), WRONG), (get(8, 0, 8), WRONG), (put(0, 8, 8), WRONG))

    def test_refused_get_and_put_change_nothing(self):
        check(self, (new(0, 2), DONE), (num(1, 5), DONE), (num(2, 6), DONE), (put(0, 0, 1), DONE), (put(0, 1, 2), DONE),
              (get(2, 1, 0), NO_OBJECT), (get(2, 0, 2), NO_SLOT), (get(2, 8, 0), WRONG), (get(8, 0, 0), WRONG),
              (put(1, 0, 0), NO_OBJECT), (put(0, 2, 0), NO_SLOT), (put(0, 1, 8), WRONG), (put(8, 1, 0), WRONG),
              *looks(thing(2), number(5), number(6), *[NOTHING] * 5),
              (get(3, 0, 0), DONE), (look(3), number(5)), (get(3, 0, 1), DONE), (look(3), number(6)))


class NumAndClear(unittest.TestCase):
    def test_numbers_of_every_size(self):
        for z in (0, 1, -1, 2, -2, 8, 4294967296, MOST - 1, MOST, LEAST + 1, LEAST):
            check(self, (num(0, z), DONE), (look(0), number(z)), (num(7, z), DONE), (look(7), number(z)))

    def test_the_largest_and_the_lowest_through_a_slot(self):
        check(self, (new(0, 2), DONE), (num(1, MOST), DONE), (num(2, LEAST), DONE), (put(0, 0, 1), DONE),
              (put(0, 1, 2), DONE), (get(3, 0, 0), DONE), (get(4, 0, 1), DONE), (look(3), number(MOST)),
              (look(4), number(LEAST)))

    def test_num_changes_one_register(self):
        for r in range(8):
            seen = [NOTHING] * 8
            seen[r] = number(12)
            check(self, (num(r, 12), DONE), *looks(*seen))

    def test_num_in_the_place_of_an_object_leaves_the_object(self):
        check(self, (new(0, 4), DONE), (copy(1, 0), DONE), (num(0, 3), DONE), *looks(number(3), thing(4)))

    def test_zero_is_a_number_and_not_nothing(self):
        check(self, (num(0, 0), DONE), (look(0), number(0)), (clear(0), DONE), (look(0), NOTHING))

    def test_clear_changes_one_register(self):
        for r in range(8):
            seen = [number(k) for k in range(8)]
            seen[r] = NOTHING
            check(self, *[(num(k, k), DONE) for k in range(8)], (clear(r), DONE), *looks(*seen))

    def test_clear_of_an_object_leaves_it_elsewhere(self):
        check(self, (new(0, 4), DONE), (copy(1, 0), DONE), (clear(0), DONE), (clear(0), DONE),
              *looks(NOTHING, thing(4)))

    def test_wrong_registers(self):
        for r in (8, 9, MOST):
            check(self, (num(0, 4), DONE), (num(7, 5), DONE), (num(r, 1), WRONG), (num(r, LEAST), WRONG),
                  (clear(r), WRONG), *looks(number(4), *[NOTHING] * 6, number(5)))


class CopyAndLook(unittest.TestCase):
    def test_copy_from_each_register_into_each(self):
        for r in range(8):
            for d in range(8):
                seen = [number(k) for k in range(8)]
                seen[r] = number(d)
                check(self, *[(num(k, k), DONE) for k in range(8)], (copy(r, d), DONE), *looks(*seen))

    def test_copy_of_nothing(self):
        check(self, (num(0, 1), DONE), (copy(0, 1), DONE), *looks(NOTHING, NOTHING))

    def test_a_copied_number_stands_by_itself(self):
        check(self, (num(0, 1), DONE), (copy(1, 0), DONE), (num(0, 2), DONE), *looks(number(2), number(1)))

    def test_a_put_is_seen_through_another_register(self):
        check(self, (new(0, 1), DONE), (copy(1, 0), DONE), (num(2, 77), DONE), (put(0, 0, 2), DONE),
              (get(3, 1, 0), DONE), (look(3), number(77)), (num(2, 78), DONE), (put(1, 0, 2), DONE),
              (get(3, 0, 0), DONE), (look(3), number(78)))

    def test_a_copy_takes_no_cell(self):
        check(self, (new(0, 1), DONE), *[(copy(1, 0), DONE)] * 100, *[(new(2, 1), DONE)] * 63, (new(2, 1), FULL))

    def test_a_got_object_is_the_same(self):
        check(self, (new(0, 1), DONE), (new(1, 1), DONE), (put(0, 0, 1), DONE), (get(2, 0, 0), DONE),
              (num(3, 5), DONE), (put(2, 0, 3), DONE), (get(4, 1, 0), DONE), (look(4), number(5)))

    def test_copy_onto_itself(self):
        check(self, (new(7, 3), DONE), (copy(7, 7), DONE), (look(7), thing(3)))

    def test_wrong_registers(self):
        for wrong in (8, 9, MOST):
            check(self, (num(0, 4), DONE), (num(7, 5), DONE), (copy(wrong, 0), WRONG), (copy(0, wrong), WRONG),
                  (copy(wrong, wrong), WRONG), (look(wrong), WRONG), *looks(number(4), *[NOTHING] * 6, number(5)))

    def test_look_changes_nothing(self):
        check(self, (new(0, 2), DONE), (num(1, 5), DONE), *looks(thing(2), number(5), NOTHING) * 3)


class NothingIsLost(unittest.TestCase):
    def test_a_chain_through_all_cells(self):
        pairs = [(new(0, 2), DONE), (num(1, 0), DONE), (put(0, 1, 1), DONE)]
        for z in range(1, 64):
            pairs += [(new(1, 2), DONE), (put(1, 0, 0), DONE), (num(2, z), DONE), (put(1, 1, 2), DONE),
                      (copy(0, 1), DONE)]
        pairs += [(new(3, 1), FULL), (clear(1), DONE)]
        for z in range(12):
            pairs += [(get(2, 0, 1), DONE), (look(2), number(63 - z)), (get(0, 0, 0), DONE)]
        check(self, *pairs)

    def test_a_chain_walked_to_its_end(self):
        pairs = [(new(0, 1), DONE)]
        for link in range(63):
            pairs += [(new(1, 2), DONE), (put(1, 0, 0), DONE), (copy(0, 1), DONE)]
        pairs += [(look(0), thing(2))] + [(get(0, 0, 0), DONE)] * 63
        check(self, *pairs, (look(0), thing(1)), (get(0, 0, 1), NO_SLOT), (get(0, 0, 0), DONE), (look(0), NOTHING))


if __name__ == "__main__":
    unittest.main()
