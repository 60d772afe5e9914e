import unittest

from tests.asking import COUNTS, add, last


class CountsTest(unittest.TestCase):
    def test_each_kind(self):
        text = "D 1\nE 1 a\nE 2 a\nC 1 A 1 - b\nC 2 A 1 - b\nC 3 A 1 - b\nM B 2\n"
        self.assertEqual(last(add(0, text), COUNTS), [6, 2, 3, 1])

    def test_entries_by_party_and_number(self):
        self.assertEqual(last(add(0, "D 1\nE 1 a\nE 1 b\nD 2\nE 1 a\n"), COUNTS), [3, 1, 0, 0])
        self.assertEqual(last(add(0, "D 1\nE 1 a\n"), add(1, "D 1\nE 1 a\n"), COUNTS), [2, 2, 0, 0])
        self.assertEqual(last(add(0, "D 1\nE 1 a\nE 2 a\n"), COUNTS), [2, 2, 0, 0])

    def test_corrections_fact_by_fact(self):
        self.assertEqual(last(add(0, "D 1\nC 1 A 1 - a\nC 1 A 1 - b\nD 2\nC 1 A 1 - a\n"), COUNTS), [3, 0, 3, 0])

    def test_meetings_fact_by_fact(self):
        self.assertEqual(last(add(0, "D 1\nM B 1\nM B 2\nM C 1\nD 2\nM B 1\nM B 1\n"), COUNTS), [4, 0, 0, 4])


if __name__ == "__main__":
    unittest.main()
