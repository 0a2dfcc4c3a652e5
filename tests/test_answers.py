"""The interface: how a list of calls is read and how its answers are told."""

import unittest

from sweptheap.hands import answers
from tests.helper import MOST, begin, compare, count, joined, look, new, num, phase, work


class ReadOnlyList(list):
    """A list that fails the test at any try to change it, even for a while."""

    def refuse(self, *arguments):
        raise AssertionError("what is handed in was changed")

    append = clear = extend = insert = pop = remove = reverse = sort = refuse
    __setitem__ = __delitem__ = __iadd__ = __imul__ = refuse


# Each of the 14 calls, with look and slot at nothing, a number and an object.
ONE_OF_EACH = joined([
    [0, 0, 2], [3, 1, -7], [2, 0, 1, 1], [1, 2, 0, 1], [6, 2], [5, 3, 0], [6, 3], [4, 0], [6, 0], [7, 3, 0], [7, 3, 1],
    [2, 3, 0, 3], [7, 3, 0], [8, 1, 2], [8, 1, 3], [9, 3], [9, 1], [0, 4, 1], [4, 4], [10], [12], [11, 2], [12], [13],
    [11, 2], [13], [11, 1000], [12]])
ONE_OF_EACH_ANSWERED = joined([
    [1, 0], [1, 0], [1, 0], [1, 0], [3, 1, 1, -7], [1, 0], [3, 2, 1, 2], [1, 0], [1, 0], [1, 0], [3, 1, 1, -7],
    [1, 0], [3, 2, 1, 2], [1, 1], [1, 0], [7, 1, 5, 2, 2, 0, 1, -7], [2, 0, 0], [1, 0], [1, 0], [1, 0], [1, 1], [1, 2],
    [1, 2], [3, 2, 1, 1], [1, 2], [3, 1, 1, 1], [1, 63], [1, 0]])
# Left in the middle of a round, with a lost object in a cell.
BROKEN_OFF = joined([[0, 0, 1], [0, 0, 1], [10], [11, 3], [12], [13]])
BROKEN_OFF_ANSWERED = [1, 0, 1, 0, 1, 0, 1, 3, 1, 2, 3, 1, 1, 1]


class Answers(unittest.TestCase):
    def test_no_calls(self):
        self.assertEqual(answers([]), [])

    def test_one_of_each_call(self):
        compare(self, answers(ONE_OF_EACH), ONE_OF_EACH_ANSWERED)

    def test_each_call_is_there(self):
        place = 0
        calls = set()
        while place < len(ONE_OF_EACH):
            calls.add(ONE_OF_EACH[place])
            place += 1 + (2, 3, 3, 2, 1, 2, 1, 2, 2, 1, 0, 1, 0, 0)[ONE_OF_EACH[place]]
        self.assertEqual(calls, set(range(14)))

    def test_each_call_alone(self):
        self.assertEqual(answers([7, 0, 0]), [1, -5])
        self.assertEqual(answers([8, 0, 7]), [1, 1])
        self.assertEqual(answers([9, 0]), [2, 0, 0])
        self.assertEqual(answers([10]), [1, 0])
        self.assertEqual(answers([11, 5]), [1, 0])
        self.assertEqual(answers([12]), [1, 0])
        self.assertEqual(answers([13]), [3, 0, 1, 0])

    def test_calls_without_numbers_one_behind_another(self):
        self.assertEqual(answers([10, 12, 13, 10, 12, 13]), [1, 0, 1, 1, 3, 0, 1, 0, 1, -3, 1, 1, 3, 0, 1, 0])

    def test_a_slot_of_each_sort(self):
        self.assertEqual(answers([0, 0, 2, 3, 1, 9, 2, 0, 0, 1, 7, 0, 0]), [1, 0, 1, 0, 1, 0, 3, 1, 1, 9])
        self.assertEqual(answers([0, 0, 2, 2, 0, 0, 0, 7, 0, 0]), [1, 0, 1, 0, 3, 2, 1, 2])
        self.assertEqual(answers([0, 0, 2, 7, 0, 0]), [1, 0, 1, 0])

    def test_each_sort_of_value_looked_at(self):
        self.assertEqual(answers([6, 0]), [1, 0])
        self.assertEqual(answers([3, 0, 5, 6, 0]), [1, 0, 3, 1, 1, 5])
        self.assertEqual(answers([0, 0, 8, 6, 0]), [1, 0, 3, 2, 1, 8])

    def test_a_refusal_is_its_number_alone(self):
        self.assertEqual(answers([0, 8, 1]), [1, -1])
        self.assertEqual(answers([1, 0, 0, 0]), [1, -5])
        self.assertEqual(answers([2, 0, 0, 0]), [1, -5])
        self.assertEqual(answers([0, 0, 1, 1, 0, 0, 1]), [1, 0, 1, -4])
        self.assertEqual(answers([6, 8]), [1, -1])
        self.assertEqual(answers([7, 8, 0]), [1, -1])
        self.assertEqual(answers([0, 0, 1, 7, 0, 1]), [1, 0, 1, -4])
        self.assertEqual(answers([8, 8, 0]), [1, -1])
        self.assertEqual(answers([9, 8]), [1, -1])
        self.assertEqual(answers([10, 10]), [1, 0, 1, -3])
        self.assertEqual(answers([11, 1001]), [1, -1])

    def test_a_refused_call_is_read_to_its_end(self):
        for refused in ([0, MOST, 6], [1, 8, 6, 6], [2, 6, 6, 8], [3, 8, 6], [4, 8], [5, 8, 6], [6, 8],
                        [7, 8, 6], [8, 6, 8], [9, 8], [11, MOST]):
            self.assertEqual(answers(refused + [6, 0]), [1, -1, 1, 0])

    def test_400_calls(self):
        calls = joined(call for z in range(200) for call in (num(z % 8, z - 100), look(z % 8)))
        told = joined([1, 0, 3, 1, 1, z - 100] for z in range(200))
        compare(self, answers(calls), told)

    def test_400_calls_past_the_last_cell(self):
        calls = joined(new(z % 8, 1 + z % 8) for z in range(400))
        compare(self, answers(calls), [1, 0] * 64 + [1, -6] * 336)

    def test_400_calls_of_the_sweeper(self):
        calls = joined([begin(), work(66), phase(), count()] * 100)
        compare(self, answers(calls), [1, 0, 1, 66, 1, 0, 3, 0, 1, 0] * 100)

    def test_400_calls_of_tree(self):
        grown = [0, 0, 8] + joined([0, 1, 8, 2, 1, 0, 0, 2, 1, 7, 1, 5, 0, 1] for z in range(63))
        tree = answers(grown + [9, 0])[2 * (1 + 4 * 63):]
        self.assertEqual(tree[:3], [2 + 64 * 17, 64, 64 * 17])
        compare(self, answers(grown + [9, 0] * 147), [1, 0] * (1 + 4 * 63) + tree * 147)

    def test_the_list_is_as_it_was(self):
        for given in (ONE_OF_EACH, BROKEN_OFF):
            calls = list(given)
            answers(calls)
            self.assertEqual(calls, given)

    def test_the_list_is_not_changed_for_a_while_either(self):
        for calls in ([], ONE_OF_EACH, BROKEN_OFF):
            compare(self, answers(ReadOnlyList(calls)), answers(calls))

    def test_a_second_time_answers_as_the_first(self):
        full = joined(new(0, 1) for z in range(65)) + look(0)
        first = answers(full)
        compare(self, first, [1, 0] * 64 + [1, -6] + [3, 2, 1, 1])
        compare(self, answers(full), first)
        self.assertEqual(answers(joined(look(r) for r in range(8))), [1, 0] * 8)
        compare(self, answers(ONE_OF_EACH), ONE_OF_EACH_ANSWERED)

    def test_a_round_broken_off_is_not_there_the_second_time(self):
        for time in range(3):
            self.assertEqual(answers(BROKEN_OFF), BROKEN_OFF_ANSWERED)
            self.assertEqual(answers([12, 13, 10]), [1, 0, 3, 0, 1, 0, 1, 0])
            compare(self, answers(ONE_OF_EACH), ONE_OF_EACH_ANSWERED)

    def test_a_changed_answer_list_changes_no_later_one(self):
        first = answers(ONE_OF_EACH)
        first.clear()
        compare(self, answers(ONE_OF_EACH), ONE_OF_EACH_ANSWERED)
        empty = answers([])
        empty.append(1)
        self.assertEqual(answers([]), [])

    def test_plain_lists_of_plain_whole_numbers(self):
        for calls in ([], ONE_OF_EACH, BROKEN_OFF, [0, 8, 1], [6, 0], [8, 0, 0], [0, 0, 1, 8, 0, 1], [13]):
            told = answers(calls)
            self.assertIs(type(told), list)
            self.assertEqual({type(value) for value in told} - {int}, set())


if __name__ == "__main__":
    unittest.main()
