"""The list of calls, and the list of what's answered."""

import time
import unittest

from joinedjournals.heap import answers
from tests.asking import (
    CLASH, CLEAR, CONTESTED, COUNTS, GROUPS, TWICE, add, ahead, all_facts, ask, behind, counted, day, entry, fact, find,
    knows, print_of, same, story,
)
from tests.heaps import RING, TWO_MEETINGS

FAR = 10 ** 18

# A heap that can be explained, and one call of each number, with its answer.
JOURNALS = [add(0, "D 5\nE 1 cat\nM B 7\nD 8\nC 1 A 1 - dog\n"), add(1, "D 12\nC 1 A 1 A1 cow\nC 2 A 1 - ox\n"),
            add(2, "D 0\nE 4 a\nE 4 b\n")]
ASKED = [
    (COUNTS, [7, 2, 3, 1]),
    (print_of(2), counted("D 0\nE 4 a\nE 4 b\n")),
    (fact(1), [0, 5, 2, 1, 7]),
    (entry(0, 1), [2, 3, 3, 99, 111, 119, 4, 2, 111, 120]),
    (knows(1, 1), [1, 0, 1]),
    (day(0, 5), [2, 0, 1]),
    (ahead(0, 1), [0, 1, -2, 1, -2]),
    (same(0, 5, 1), [0, 7]),
    (GROUPS, [0, 0, 0, 2, 3, 4, 5]),
    (CLASH, [0]),
    (TWICE, [2, 5, 6]),
    (CONTESTED, [2, 0, 1, 2, 4]),
    (story(1), [0, 1, 7, 0, 1]),
    (find("o"), [1, 0, 1]),
]
CALLS = [call for call, answer in ASKED]
ANSWERS = [answer for call, answer in ASKED]

# Calls that are refused whatever is in the heap.
REFUSED = [add(6, ""), add(0, [256]), add(0, "D 1\nE 1 new\nx"), print_of(6), fact(1001), entry(6, 1), knows(0, 0),
           day(0, 10000), ahead(0, 6), ahead(-1, 0), same(6, 0, 0), same(0, -1, 0), same(0, 0, 6), story(6), find([-1]),
           find("x" * 41)]


def full_heap():
    """Sixty facts, twelve corrections of them, that can be explained."""
    known = ["-", "B1", "B1,B2", "B1,B2,B3", "B1,B2,B3,B4"]
    lines = [f"C {number} A {number % 3 + 1} {known[(number - 1) % 5]} text{number}" for number in range(1, 13)]
    entries = [f"D {number}\nE {number % 5 + 1} a{number}" for number in range(40)]
    meetings = [f"M {letter} 50" for letter in "ABCDEF" if letter != "D"] + ["D 60\nM A 60", "M B 60", "M C 60"]
    return [add(0, "\n".join(entries)), add(1, "D 50\n" + "\n".join(lines)), add(3, "D 50\n" + "\n".join(meetings))]


class InterfaceTest(unittest.TestCase):
    def test_count_stands_ahead_of_each_answer(self):
        self.assertEqual(answers([0]), [1, 0])
        self.assertEqual(answers([2]), [4, 0, 0, 0, 0])
        self.assertEqual(answers([3, 0]), [1, 0])
        self.assertEqual(answers([7, 0, 0]), [1, 0])

    def test_several_calls_in_one_list(self):
        text = [ord(sign) for sign in "D 7\nE 3 hi\n"]
        calls = [2, 1, 0, len(text)] + text + [2, 3, 0, 4, 0, 5, 0, 3, 6, 0, 3, 7, 0, 7, 0, 2]
        wanted = [4, 0, 0, 0, 0]
        wanted += [1, 1]
        wanted += [4, 1, 1, 0, 0]
        wanted += [12, 11] + text
        wanted += [7, 0, 7, 0, 3, 2, 104, 105]
        wanted += [5, 1, 0, 2, 104, 105]
        wanted += [1, -4]
        wanted += [2, 1, 0]
        wanted += [1, 0]
        wanted += [4, 0, 0, 0, 0]
        self.assertEqual(answers(calls), wanted)

    def test_refusal_is_one_number_alone(self):
        self.assertEqual(answers([3, 6]), [1, -1])
        self.assertEqual(answers([4, 0]), [1, -4])
        self.assertEqual(answers([1, 0, 1, 88]), [1, -101])

    def test_calls_go_on_behind_a_refusal(self):
        self.assertEqual(ask([3, -1], [4, 2000], add(9, "D 1\n"), add(0, "X"), add(0, "D 1\nE 1 a"), COUNTS),
                         [[-1], [-1], [-1], [-101], [1], [1, 1, 0, 0]])

    def test_row_out_of_range_is_passed_over_whole(self):
        long_text = [10] * 1510
        self.assertEqual(ask(add(0, long_text), COUNTS, add(0, [FAR, -FAR]), COUNTS),
                         [[-1], [0, 0, 0, 0], [-1], [0, 0, 0, 0]])

    def test_list_handed_in_is_the_same_afterwards(self):
        calls = add(0, "D 1\nC 1 A 1 C3,B2 x\nE 1 y\n") + COUNTS + fact(0) + [5, 0, 1, 6, 0, 1, 3, 0] + CLEAR
        before = list(calls)
        answers(calls)
        self.assertEqual(calls, before)

    def test_second_use_begins_with_an_empty_heap(self):
        calls = add(0, "D 1\nE 1 a\n") + COUNTS
        first = answers(calls)
        self.assertEqual(first, [1, 1, 4, 1, 1, 0, 0])
        self.assertEqual(answers(COUNTS), [4, 0, 0, 0, 0])
        self.assertEqual(answers(calls), first)

    def test_answer_is_a_list_of_whole_numbers(self):
        given = answers(add(0, "D 1\nE 1 a\nC 1 A 1 B1 b\nM B 2\n") + COUNTS + [4, 0, 4, 1, 4, 2, 5, 0, 1, 6, 0, 1, 7, 0, 1])
        self.assertIs(type(given), list)
        self.assertEqual({type(number) for number in given}, {int})

    def test_longest_list(self):
        text = "D 1\n" + "E 1 a\n" * 249
        calls = [add(0, text[:1500]) for round_number in range(11)] + [COUNTS] * 139
        self.assertLessEqual(sum([len(call) for call in calls]), 17000)
        self.assertEqual(ask(*calls), [[1]] + [[0]] * 10 + [[1, 1, 0, 0]] * 139)


class AllCallsTest(unittest.TestCase):
    def test_each_one(self):
        self.assertEqual(sorted([call[0] for call in CALLS]), list(range(2, 16)))
        self.assertEqual(behind(JOURNALS, *CALLS), ANSWERS)

    def test_in_any_order(self):
        for turn in range(1, len(CALLS)):
            self.assertEqual(behind(JOURNALS, *CALLS[turn:], *CALLS[:turn]), ANSWERS[turn:] + ANSWERS[:turn])
        self.assertEqual(behind(JOURNALS, *reversed(CALLS)), ANSWERS[::-1])

    def test_numbers_as_they_stand(self):
        self.assertEqual(answers([8, 0, 0, 9, 1, 2, 1, 10, 11, 12, 13, 14, 5, 15, 0, 0]),
                         [5, 0, 1, 0, 1, 0, 2, 0, 2, 7, 0, 0, 1, 2, 3, 4, 5, 1, 0, 1, 0, 1, 0, 2, 0, 0, 1, 0, 1, 0])
        self.assertEqual(answers([15, 2, 97, 98, 10, 15, 1, 256, 15, 0]),
                         [1, 0, 7, 0, 0, 1, 2, 3, 4, 5, 1, -1, 1, 0])

    def test_mixed_with_adds_and_clear(self):
        self.assertEqual(ask(*JOURNALS, *CALLS, CLEAR, *TWO_MEETINGS, CLASH, GROUPS, CLEAR, *RING, CLASH, story(0), CLEAR,
                             *JOURNALS, *CALLS),
                         [[3], [2], [2]] + ANSWERS + [[0], [2], [1, 2, 0, 1, 7, 0, 1, 0, -8, 1], [-7], [0], [1], [1],
                                                      [2, 2, 0, 1], [-7], [0], [3], [2], [2]] + ANSWERS)

    def test_order_in_which_journals_come(self):
        self.assertEqual(behind(JOURNALS[::-1], *CALLS), ANSWERS)
        self.assertEqual(behind(JOURNALS + JOURNALS[1:] + JOURNALS[:1], *CALLS), ANSWERS)

    def test_calls_change_nothing(self):
        wanted = all_facts(*JOURNALS)
        self.assertEqual(all_facts(*JOURNALS, *CALLS), wanted)
        self.assertEqual(behind(JOURNALS, *CALLS, *CALLS), ANSWERS + ANSWERS)

    def test_refused_calls_change_nothing(self):
        for refused in REFUSED:
            given = behind(JOURNALS, refused, *CALLS)
            self.assertEqual(len(given[0]), 1)
            self.assertLess(given[0][0], 0)
            self.assertEqual(given[1:], ANSWERS)
        for told in [TWO_MEETINGS, RING]:
            wanted = all_facts(*told)
            self.assertEqual(all_facts(*told, ahead(0, 1), same(0, 1, 1), GROUPS, story(0)), wanted)

    def test_list_handed_in_is_the_same_afterwards(self):
        for told in [JOURNALS, TWO_MEETINGS, RING, full_heap()]:
            calls = [number for call in told + CALLS + REFUSED for number in call]
            before = list(calls)
            first = answers(calls)
            self.assertEqual(calls, before)
            self.assertEqual(answers(calls), first)

    def test_answer_is_a_list_of_whole_numbers(self):
        for told in [JOURNALS, TWO_MEETINGS, RING]:
            given = answers([number for call in told + CALLS for number in call])
            self.assertIs(type(given), list)
            self.assertEqual({type(number) for number in given}, {int})

    def test_hundred_and_fifty_calls(self):
        calls = JOURNALS + CALLS * 10 + [CLEAR] * 7
        self.assertEqual(len(calls), 150)
        self.assertEqual(ask(*calls), [[3], [2], [2]] + ANSWERS * 10 + [[0]] * 7)


class FullHeapTest(unittest.TestCase):
    def test_answers(self):
        told = full_heap()
        self.assertEqual(behind(told, COUNTS, CLASH, GROUPS, ahead(0, 1)),
                         [[60, 5, 12, 8], [0], [0, 0, 0, 0, 0, 0, 0], [0, 1, 0, 1, 0]])
        self.assertEqual(behind(told, TWICE), [[40] + list(range(40))])
        self.assertEqual(behind(told, story(5))[0][:8], [0, 40, 0, 0, 1, 1, 0, 2])

    def test_add_to_it(self):
        told = full_heap()
        self.assertEqual(behind(told, add(5, "D 1\nE 1 a\n"), CLASH, *told, COUNTS), [[-5], [0], [0], [0], [0], [60, 5, 12, 8]])

    def test_asked_by_each_call_in_reasonable_time(self):
        begin = time.monotonic()
        for call in CALLS:
            given = behind(full_heap(), *[call] * 147)
            self.assertEqual(given, [given[0]] * 147)
        # It takes less than a second in all; a slow machine may take its time.
        self.assertLess(time.monotonic() - begin, 60)


if __name__ == "__main__":
    unittest.main()
