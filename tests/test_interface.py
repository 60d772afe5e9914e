"""The list of calls, and the list of what's answered."""

import unittest

from joinedjournals.heap import answers
from tests.asking import CLEAR, COUNTS, add, ask, fact

FAR = 10 ** 18


class InterfaceTest(unittest.TestCase):
    def test_count_stands_ahead_of_each_answer(self):
        self.assertEqual(answers([0]), [1, 0])
        self.assertEqual(answers([2]), [4, 0, 0, 0, 0])
        self.assertEqual(answers([3, 0]), [1, 0])
        self.assertEqual(answers([7, 0, 0]), [1, 0])

    def test_several_calls_in_one_list(self):
        text = [ord(sign) for sign in "D 7\nE 3 hi\n"]
        calls = [2, 1, 0, len(text)] + text + [2, 3, 0, 4, 0, 5, 0, 3, 6, 0, 3, 7, 0, 7, 0, 2]
        wanted = [4, 0, 0, 0, 0]
        wanted += [1, 1]
        wanted += [4, 1, 1, 0, 0]
        wanted += [12, 11] + text
        wanted += [7, 0, 7, 0, 3, 2, 104, 105]
        wanted += [5, 1, 0, 2, 104, 105]
        wanted += [1, -4]
        wanted += [2, 1, 0]
        wanted += [1, 0]
        wanted += [4, 0, 0, 0, 0]
        self.assertEqual(answers(calls), wanted)

    def test_refusal_is_one_number_alone(self):
        self.assertEqual(answers([3, 6]), [1, -1])
        self.assertEqual(answers([4, 0]), [1, -4])
        self.assertEqual(answers([1, 0, 1, 88]), [1, -101])

    def test_calls_go_on_behind_a_refusal(self):
        self.assertEqual(ask([3, -1], [4, 2000], add(9, "D 1\n"), add(0, "X"), add(0, "D 1\nE 1 a"), COUNTS),
                         [[-1], [-1], [-1], [-101], [1], [1, 1, 0, 0]])

    def test_row_out_of_range_is_passed_over_whole(self):
        long_text = [10] * 1510
        self.assertEqual(ask(add(0, long_text), COUNTS, add(0, [FAR, -FAR]), COUNTS),
                         [[-1], [0, 0, 0, 0], [-1], [0, 0, 0, 0]])

    def test_list_handed_in_is_the_same_afterwards(self):
        calls = add(0, "D 1\nC 1 A 1 C3,B2 x\nE 1 y\n") + COUNTS + fact(0) + [5, 0, 1, 6, 0, 1, 3, 0] + CLEAR
        before = list(calls)
        answers(calls)
        self.assertEqual(calls, before)

    def test_second_use_begins_with_an_empty_heap(self):
        calls = add(0, "D 1\nE 1 a\n") + COUNTS
        first = answers(calls)
        self.assertEqual(first, [1, 1, 4, 1, 1, 0, 0])
        self.assertEqual(answers(COUNTS), [4, 0, 0, 0, 0])
        self.assertEqual(answers(calls), first)

    def test_answer_is_a_list_of_whole_numbers(self):
        given = answers(add(0, "D 1\nE 1 a\nC 1 A 1 B1 b\nM B 2\n") + COUNTS + [4, 0, 4, 1, 4, 2, 5, 0, 1, 6, 0, 1, 7, 0, 1])
        self.assertIs(type(given), list)
        self.assertEqual({type(number) for number in given}, {int})

    def test_longest_list(self):
        text = "D 1\n" + "E 1 a\n" * 249
        calls = [add(0, text[:1500]) for round_number in range(11)] + [COUNTS] * 139
        self.assertLessEqual(sum([len(call) for call in calls]), 17000)
        self.assertEqual(ask(*calls), [[1]] + [[0]] * 10 + [[1, 1, 0, 0]] * 139)


if __name__ == "__main__":
    unittest.main()
