import unittest

from tests.asking import CLEAR, COUNTS, add, ask, day, entry, fact, knows, last, print_of

JOURNAL = "D 1\nE 1 a\nC 1 A 1 - b\nM B 2\n"


class ClearTest(unittest.TestCase):
    def test_answers_zero(self):
        self.assertEqual(ask(CLEAR, CLEAR), [[0], [0]])
        self.assertEqual(last(add(0, JOURNAL), CLEAR), [0])

    def test_heap_is_empty_before_the_first_call(self):
        self.assertEqual(ask(COUNTS, print_of(0), fact(0), entry(0, 1), knows(0, 1), day(0, 1)),
                         [[0, 0, 0, 0], [0], [-4], [-4], [-4], [0]])

    def test_heap_is_empty_behind_it(self):
        told = ask(add(0, JOURNAL), COUNTS, CLEAR, COUNTS, print_of(0), fact(0), entry(0, 1), knows(0, 1), day(0, 1))
        self.assertEqual(told, [[3], [3, 1, 1, 1], [0], [0, 0, 0, 0], [0], [-4], [-4], [-4], [0]])

    def test_facts_are_new_again_behind_it(self):
        self.assertEqual(ask(add(0, JOURNAL), add(0, JOURNAL), CLEAR, add(0, JOURNAL)), [[3], [0], [0], [3]])


if __name__ == "__main__":
    unittest.main()
