"""The interface: how a list of calls is read and how its answers are told."""

import unittest

from sweptheap.hands import answers
from tests.helper import MOST, joined, look, new, num


class ReadOnlyList(list):
    """A list that fails the test at any try to change it, even for a while."""

    def refuse(self, *arguments):
        raise AssertionError("what is handed in was changed")

    append = clear = extend = insert = pop = remove = reverse = sort = refuse
    __setitem__ = __delitem__ = __iadd__ = __imul__ = refuse


ONE_OF_EACH = [0, 0, 2, 3, 1, -7, 2, 0, 1, 1, 1, 2, 0, 1, 6, 2, 5, 3, 0, 6, 3, 4, 0, 6, 0]
ONE_OF_EACH_ANSWERED = [1, 0, 1, 0, 1, 0, 1, 0, 3, 1, 1, -7, 1, 0, 3, 2, 1, 2, 1, 0, 1, 0]


class Answers(unittest.TestCase):
    def test_no_calls(self):
        self.assertEqual(answers([]), [])

    def test_one_of_each_call(self):
        self.assertEqual(answers(ONE_OF_EACH), ONE_OF_EACH_ANSWERED)

    def test_each_sort_of_value_looked_at(self):
        self.assertEqual(answers([6, 0]), [1, 0])
        self.assertEqual(answers([3, 0, 5, 6, 0]), [1, 0, 3, 1, 1, 5])
        self.assertEqual(answers([0, 0, 8, 6, 0]), [1, 0, 3, 2, 1, 8])

    def test_a_refusal_is_its_number_alone(self):
        self.assertEqual(answers([0, 8, 1]), [1, -1])
        self.assertEqual(answers([1, 0, 0, 0]), [1, -5])
        self.assertEqual(answers([2, 0, 0, 0]), [1, -5])
        self.assertEqual(answers([0, 0, 1, 1, 0, 0, 1]), [1, 0, 1, -4])
        self.assertEqual(answers([6, 8]), [1, -1])

    def test_a_refused_call_is_read_to_its_end(self):
        for refused in ([0, MOST, 6], [1, 8, 6, 6], [2, 6, 6, 8], [3, 8, 6], [4, 8], [5, 8, 6], [6, 8]):
            self.assertEqual(answers(refused + [6, 0]), [1, -1, 1, 0])

    def test_400_calls(self):
        calls = joined(call for z in range(200) for call in (num(z % 8, z - 100), look(z % 8)))
        told = joined([1, 0, 3, 1, 1, z - 100] for z in range(200))
        self.assertEqual(answers(calls), told)

    def test_400_calls_past_the_last_cell(self):
        calls = joined(new(z % 8, 1 + z % 8) for z in range(400))
        self.assertEqual(answers(calls), [1, 0] * 64 + [1, -6] * 336)

    def test_the_list_is_as_it_was(self):
        calls = list(ONE_OF_EACH)
        answers(calls)
        self.assertEqual(calls, ONE_OF_EACH)

    def test_the_list_is_not_changed_for_a_while_either(self):
        for calls in ([], ONE_OF_EACH):
            self.assertEqual(answers(ReadOnlyList(calls)), answers(calls))

    def test_a_second_time_answers_as_the_first(self):
        full = joined(new(0, 1) for z in range(65)) + look(0)
        first = answers(full)
        self.assertEqual(first, [1, 0] * 64 + [1, -6] + [3, 2, 1, 1])
        self.assertEqual(answers(full), first)
        self.assertEqual(answers(joined(look(r) for r in range(8))), [1, 0] * 8)
        self.assertEqual(answers(ONE_OF_EACH), ONE_OF_EACH_ANSWERED)

    def test_a_changed_answer_list_changes_no_later_one(self):
        first = answers(ONE_OF_EACH)
        first.clear()
        self.assertEqual(answers(ONE_OF_EACH), ONE_OF_EACH_ANSWERED)
        empty = answers([])
        empty.append(1)
        self.assertEqual(answers([]), [])

    def test_plain_lists_of_plain_whole_numbers(self):
        for calls in ([], ONE_OF_EACH, [0, 8, 1], [6, 0]):
            told = answers(calls)
            self.assertIs(type(told), list)
            self.assertEqual({type(value) for value in told} - {int}, set())


if __name__ == "__main__":
    unittest.main()
