"""The calls slot, same and tree at ordinary inputs, at the edges that the document names, and refused."""

import unittest

from tests.helper import (
    DONE, LEAST, MOST, NO, NOTHING, NO_OBJECT, NO_SLOT, WRONG, YES,
    check, clear, copy, get, look, looks, met, new, num, number, put, same, slot, thing, tree)


def filled(r, *numbers):
    """Pairs that make an object of these numbers in r; register 7 is used up."""
    pairs = [(new(r, len(numbers)), DONE)]
    for k, z in enumerate(numbers):
        pairs += [(num(7, z), DONE), (put(r, k, 7), DONE)]
    return pairs + [(clear(7), DONE)]


class Slot(unittest.TestCase):
    def test_nothing_a_number_and_an_object(self):
        check(self, (new(0, 3), DONE), (num(1, -7), DONE), (put(0, 1, 1), DONE), (new(2, 5), DONE),
              (put(0, 2, 2), DONE),
              (slot(0, 0), NOTHING), (slot(0, 1), number(-7)), (slot(0, 2), thing(5)))

    def test_each_register_and_each_slot(self):
        for r in range(8):
            for k in range(8):
                seen = [NOTHING] * 8
                seen[k] = number(9)
                check(self, (new(r, 8), DONE), (num((r + 1) % 8, 9), DONE), (put(r, k, (r + 1) % 8), DONE),
                      *[(slot(r, other), seen[other]) for other in range(8)], (slot(r, 8), NO_SLOT))

    def test_numbers_of_every_size(self):
        for z in (0, 1, -1, MOST, LEAST):
            check(self, *filled(0, z), (slot(0, 0), number(z)))

    def test_an_object_in_a_slot_of_its_own(self):
        check(self, (new(0, 2), DONE), (put(0, 1, 0), DONE), (slot(0, 0), NOTHING), (slot(0, 1), thing(2)))

    def test_the_slot_behind_the_last(self):
        for n in range(1, 9):
            check(self, (new(0, n), DONE), (slot(0, n - 1), NOTHING), (slot(0, n), NO_SLOT), (slot(0, n + 1), NO_SLOT),
                  (slot(0, MOST), NO_SLOT))

    def test_a_number_or_nothing_is_no_object(self):
        check(self, (num(1, 5), DONE), (slot(0, 0), NO_OBJECT), (slot(1, 0), NO_OBJECT))

    def test_wrong_register(self):
        for r in (8, 9, MOST):
            check(self, (new(0, 1), DONE), (new(7, 2), DONE), (slot(7, 1), NOTHING), (slot(r, 0), WRONG))

    def test_the_first_refusal_as_told(self):
        check(self, (slot(8, 0), WRONG), (slot(8, MOST), WRONG), (slot(0, 8), NO_OBJECT), (slot(0, MOST), NO_OBJECT),
              (num(0, 1), DONE), (slot(0, 1), NO_OBJECT), (new(0, 1), DONE), (slot(8, 1), WRONG), (slot(0, 1), NO_SLOT))

    def test_nothing_is_changed(self):
        seen = [*looks(thing(2), number(4), *[NOTHING] * 6), (tree(0), met([4, None]))]
        check(self, (new(0, 2), DONE), (num(1, 4), DONE), (put(0, 0, 1), DONE), *seen,
              (slot(0, 0), number(4)), (slot(0, 1), NOTHING), *seen,
              (slot(8, 0), WRONG), (slot(1, 0), NO_OBJECT), (slot(2, 0), NO_OBJECT), (slot(0, 2), NO_SLOT), *seen)


class Same(unittest.TestCase):
    def test_nothing_and_nothing(self):
        for r in range(8):
            check(self, *[(same(r, d), YES) for d in range(8)])

    def test_nothing_and_zero(self):
        check(self, (num(0, 0), DONE), (same(0, 1), NO), (same(1, 0), NO))

    def test_nothing_and_an_object(self):
        check(self, (new(0, 1), DONE), (same(0, 1), NO), (same(1, 0), NO))

    def test_alike_numbers(self):
        for z in (0, 1, -1, 300, MOST, LEAST):
            check(self, (num(0, z), DONE), (num(7, z), DONE), (same(0, 7), YES), (same(7, 0), YES), (same(0, 0), YES))

    def test_other_numbers(self):
        for z, other in ((0, 1), (1, -1), (MOST, LEAST), (MOST, MOST - 1), (LEAST, LEAST + 1)):
            check(self, (num(0, z), DONE), (num(7, other), DONE), (same(0, 7), NO), (same(7, 0), NO))

    def test_a_number_and_an_object(self):
        for z in (0, 1, 2):
            check(self, (new(5, 1), DONE), (new(0, 1), DONE), (num(1, z), DONE), (same(0, 1), NO), (same(1, 0), NO),
                  (same(5, 1), NO), (same(1, 5), NO))

    def test_the_same_object(self):
        check(self, (new(0, 1), DONE), (copy(1, 0), DONE), (same(0, 1), YES), (same(1, 0), YES), (same(0, 0), YES))

    def test_the_same_object_by_way_of_a_slot(self):
        check(self, (new(0, 1), DONE), (new(1, 1), DONE), (put(1, 0, 0), DONE), (get(2, 1, 0), DONE),
              (same(0, 2), YES), (same(2, 0), YES), (same(0, 1), NO), (same(1, 2), NO))

    def test_the_same_object_by_way_of_a_slot_of_its_own(self):
        check(self, (new(0, 1), DONE), (put(0, 0, 0), DONE), (get(1, 0, 0), DONE), (same(0, 1), YES))

    def test_two_objects_that_look_alike(self):
        check(self, *filled(0, 3, 4), *filled(1, 3, 4), (tree(0), met([3, 4])), (tree(1), met([3, 4])),
              (same(0, 1), NO), (same(1, 0), NO))

    def test_two_empty_objects(self):
        check(self, (new(0, 1), DONE), (new(1, 1), DONE), (same(0, 1), NO), (same(1, 0), NO))

    def test_objects_with_the_same_object_in_their_slots(self):
        check(self, (new(2, 1), DONE), (new(0, 1), DONE), (put(0, 0, 2), DONE), (new(1, 1), DONE), (put(1, 0, 2), DONE),
              (same(0, 1), NO), (get(0, 0, 0), DONE), (get(1, 1, 0), DONE), (same(0, 1), YES))

    def test_wrong_registers(self):
        for wrong in (8, 9, MOST):
            check(self, (num(0, 4), DONE), (same(wrong, 0), WRONG), (same(0, wrong), WRONG),
                  (same(wrong, wrong), WRONG),
                  *looks(number(4), *[NOTHING] * 7), (same(7, 6), YES), (same(0, 7), NO))

    def test_nothing_is_changed(self):
        seen = [*looks(thing(1), thing(1), number(4), *[NOTHING] * 5), (tree(0), met([None])), (tree(1), met([None]))]
        check(self, (new(0, 1), DONE), (new(1, 1), DONE), (num(2, 4), DONE), *seen, (same(0, 1), NO), (same(1, 2), NO),
              (same(2, 3), NO), (same(0, 0), YES), *seen)


class Tree(unittest.TestCase):
    def test_nothing(self):
        for r in range(8):
            check(self, (tree(r), [2, 0, 0]))

    def test_a_number(self):
        for z in (0, 5, MOST, LEAST):
            check(self, (num(7, z), DONE), (tree(7), [2, 0, 0]))

    def test_one_object(self):
        for n in range(1, 9):
            check(self, (new(3, n), DONE), (tree(3), [3 + 2 * n, 1, 1 + 2 * n, n] + [0, 0] * n))

    def test_numbers_in_slots(self):
        check(self, *filled(0, 0, -1, MOST, LEAST), (tree(0), [11, 1, 9, 4, 1, 0, 1, -1, 1, MOST, 1, LEAST]))

    def test_each_sort_of_value_in_slots(self):
        check(self, *filled(1, 8), (new(0, 3), DONE), (num(2, 6), DONE), (put(0, 1, 2), DONE), (put(0, 2, 1), DONE),
              (tree(0), [12, 2, 10, 3, 0, 0, 1, 6, 2, 1, 1, 1, 8]), (tree(1), [5, 1, 3, 1, 1, 8]))

    def test_an_object_in_a_slot_of_its_own(self):
        check(self, (new(0, 2), DONE), (put(0, 1, 0), DONE), (tree(0), met([None, "0"])))

    def test_an_object_in_all_slots_of_its_own(self):
        check(self, (new(0, 8), DONE), *[(put(0, k, 0), DONE) for k in range(8)], (tree(0), met(["0"] * 8)))

    def test_two_objects_in_each_others_slots(self):
        check(self, (new(0, 1), DONE), (new(1, 2), DONE), (put(0, 0, 1), DONE), (put(1, 1, 0), DONE),
              (tree(0), met(["1"], [None, "0"])), (tree(1), met([None, "1"], ["0"])))

    def test_one_object_in_several_slots_is_met_once(self):
        check(self, *filled(1, 5), (new(0, 3), DONE), (put(0, 0, 1), DONE), (put(0, 2, 1), DONE),
              (tree(0), met(["1", None, "1"], [5])))

    def test_one_object_in_slots_of_several(self):
        check(self, *filled(3, 5), (new(1, 1), DONE), (put(1, 0, 3), DONE), (new(2, 1), DONE), (put(2, 0, 3), DONE),
              (new(0, 2), DONE), (put(0, 0, 1), DONE), (put(0, 1, 2), DONE),
              (tree(0), met(["1", "2"], ["3"], ["3"], [5])))

    def test_what_is_nearer_is_met_first(self):
        pairs = [*filled(2, 30), (new(1, 2), DONE), (put(1, 1, 2), DONE), *filled(3, 20), (new(0, 2), DONE),
                 (put(0, 0, 1), DONE), (put(0, 1, 3), DONE)]
        check(self, *pairs, (tree(0), met(["1", "2"], [None, "3"], [20], [30])))

    def test_slots_are_gone_through_in_order_whatever_the_cells(self):
        check(self, *filled(1, 1), *filled(2, 2), *filled(3, 3), (new(0, 3), DONE), (put(0, 0, 3), DONE),
              (put(0, 1, 1), DONE), (put(0, 2, 2), DONE), (tree(0), met(["1", "2", "3"], [3], [1], [2])))

    def test_the_slots_of_the_first_met_before_those_of_the_second(self):
        check(self, *filled(3, 3), *filled(4, 4), (new(1, 2), DONE), (put(1, 0, 3), DONE), (new(2, 2), DONE),
              (put(2, 0, 4), DONE), (put(2, 1, 3), DONE), (new(0, 2), DONE), (put(0, 0, 2), DONE), (put(0, 1, 1), DONE),
              (tree(0), met(["1", "2"], ["3", "4"], ["4", None], [4], [3])))

    def test_an_object_back_in_the_slot_of_one_met_later(self):
        check(self, (new(0, 2), DONE), (new(1, 1), DONE), (new(2, 2), DONE), (put(0, 0, 1), DONE), (put(1, 0, 2), DONE),
              (put(2, 0, 0), DONE), (put(2, 1, 1), DONE),
              (tree(0), met(["1", None], ["2"], ["0", "1"])),
              (tree(1), met(["1"], ["2", "0"], ["0", None])),
              (tree(2), met(["1", "2"], ["2", None], ["0"])))

    def test_only_what_is_come_to_from_this_register(self):
        check(self, *filled(0, 1), *filled(1, 2), (new(2, 1), DONE), (put(2, 0, 0), DONE),
              (tree(0), met([1])), (tree(1), met([2])), (tree(2), met(["1"], [1])), (tree(3), met()))

    def test_64_objects_in_a_row(self):
        pairs = [(new(0, 1), DONE), (copy(2, 0), DONE)]
        for link in range(63):
            pairs += [(new(1, 1), DONE), (put(0, 0, 1), DONE), (copy(0, 1), DONE)]
        row = [[str(place + 1)] for place in range(63)]
        check(self, *pairs, (tree(2), met(*row, [None])), (tree(0), met([None])),
              (put(0, 0, 2), DONE), (tree(2), met(*row, ["0"])))

    def test_64_objects_in_a_row_the_last_made_first(self):
        pairs = [(new(0, 1), DONE)]
        for link in range(63):
            pairs += [(new(1, 1), DONE), (put(1, 0, 0), DONE), (copy(0, 1), DONE)]
        check(self, *pairs, (tree(0), met(*[[str(place + 1)] for place in range(63)], [None])))

    def test_64_objects_of_8_slots_each(self):
        # The object at place p holds those at 8 * p + 1 to 8 * p + 8; the rest hold none.
        pairs = [(new(0, 8), DONE)]
        children = [list(range(8 * place + 1, min(8 * place + 9, 64))) for place in range(64)]
        for k in range(8):
            pairs += self.branch(children[k + 1]) + [(put(0, k, 1), DONE)]
        objects = []
        for place in range(64):
            held = [str(child) for child in children[place]]
            objects.append(held + [None] * (8 - len(held)))
        check(self, *pairs, (tree(0), met(*objects)))

    def branch(self, held):
        pairs = [(new(1, 8), DONE)]
        for k in range(len(held)):
            pairs += [(new(2, 8), DONE), (put(1, k, 2), DONE)]
        return pairs

    def test_64_objects_of_8_slots_in_a_row_and_back_to_the_first(self):
        pairs = [(new(0, 8), DONE), (copy(2, 0), DONE)]
        for link in range(63):
            pairs += [(new(1, 8), DONE), (put(1, 1, 2), DONE), (put(0, 0, 1), DONE), (copy(0, 1), DONE)]
        objects = [["1"] + [None] * 7]
        objects += [[str(place + 1), "0"] + [None] * 6 for place in range(1, 63)]
        check(self, *pairs, (tree(2), met(*objects, [None, "0"] + [None] * 6)))

    def test_the_whole_length_is_told(self):
        check(self, (new(0, 8), DONE), (new(1, 8), DONE), (put(0, 7, 1), DONE),
              (tree(0), [36, 2, 34, 8] + [0, 0] * 7 + [2, 1] + [8] + [0, 0] * 8))

    def test_wrong_register(self):
        for r in (8, 9, MOST):
            check(self, (new(0, 1), DONE), (new(7, 2), DONE), (tree(7), met([None, None])), (tree(r), WRONG),
                  *looks(thing(1), *[NOTHING] * 6, thing(2)))

    def test_nothing_is_changed(self):
        seen = [*looks(thing(2), thing(1), *[NOTHING] * 6), (slot(0, 0), thing(1)), (slot(0, 1), NOTHING)]
        check(self, (new(0, 2), DONE), (new(1, 1), DONE), (put(0, 0, 1), DONE), *seen,
              (tree(0), met(["1", None], [None])), (tree(0), met(["1", None], [None])), (tree(1), met([None])), *seen)

    def test_a_tree_follows_what_hands_change(self):
        check(self, (new(0, 1), DONE), (new(1, 1), DONE), (put(0, 0, 1), DONE), (tree(0), met(["1"], [None])),
              (put(0, 0, 7), DONE), (tree(0), met([None])), (look(1), thing(1)), (put(1, 0, 0), DONE),
              (tree(1), met(["1"], [None])), (num(0, 3), DONE), (tree(0), met()), (tree(1), met(["1"], [None])))


if __name__ == "__main__":
    unittest.main()
