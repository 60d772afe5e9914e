import unittest

from tests.asking import CONTESTED, add, last
from tests.heaps import TWO_MEETINGS


class ContestedTest(unittest.TestCase):
    def test_nothing(self):
        self.assertEqual(last(CONTESTED), [0])
        self.assertEqual(last(add(0, "D 1\nE 1 a\nE 2 a\nM B 1\nM B 1\n"), CONTESTED), [0])
        self.assertEqual(last(add(0, "D 1\nE 1 a\nC 1 A 1 - b\n"), CONTESTED), [0])

    def test_told_in_two_ways(self):
        self.assertEqual(last(add(0, "D 1\nE 1 a\nE 1 b\n"), CONTESTED), [1, 0, 1])
        self.assertEqual(last(add(0, "D 1\nE 1 a\nD 2\nE 1 a\n"), CONTESTED), [1, 0, 1])

    def test_told_in_two_ways_with_one_correction(self):
        self.assertEqual(last(add(0, "D 1\nE 1 a\nE 1 b\n"), add(1, "D 1\nC 1 A 1 - c\n"), CONTESTED), [0])

    def test_two_corrections_that_do_not_know_one_another(self):
        told = [add(0, "D 1\nE 1 a\n"), add(1, "D 1\nC 1 A 1 - b\n"), add(2, "D 1\nC 1 A 1 - b\n")]
        self.assertEqual(last(*told, CONTESTED), [1, 0, 1])

    def test_one_knows_the_other(self):
        told = [add(0, "D 1\nE 1 a\n"), add(1, "D 1\nC 1 A 1 - b\n"), add(2, "D 1\nC 1 A 1 B1 b\n")]
        self.assertEqual(last(*told, CONTESTED), [0])
        self.assertEqual(last(*told, add(3, "D 1\nC 1 A 1 B1 b\n"), CONTESTED), [1, 0, 1])
        self.assertEqual(last(*told, add(3, "D 1\nC 1 A 1 C1 b\n"), CONTESTED), [0])

    def test_one_knows_the_other_over_a_correction_of_another_entry(self):
        told = [add(0, "D 1\nE 1 a\n"), add(1, "D 1\nC 1 A 1 - b\nC 2 F 3 B1 x\n"), add(2, "D 1\nC 1 A 1 B2 b\n")]
        self.assertEqual(last(*told, CONTESTED), [0])

    def test_one_correction_told_in_two_ways(self):
        told = [add(0, "D 1\nE 1 a\n"), add(1, "D 1\nC 1 A 1 - b\nC 1 A 1 - c\n")]
        self.assertEqual(last(*told, CONTESTED), [1, 0, 1])

    def test_entry_that_only_corrections_speak_of(self):
        told = [add(1, "D 1\nC 1 A 1 - b\nC 2 A 1 - c\n")]
        self.assertEqual(last(*told, CONTESTED), [0])
        self.assertEqual(last(*told, add(0, "D 1\nE 1 a\n"), CONTESTED), [1, 0, 1])

    def test_entry_of_which_nothing_stands(self):
        told = [add(0, "D 1\nE 1 a\nE 1 b\nC 1 A 1 B1 b\n"), add(1, "D 1\nC 1 A 1 A1 c\n")]
        self.assertEqual(last(*told, CONTESTED), [0])

    def test_by_party_then_by_number(self):
        told = [add(5, "D 1\nE 1 a\nE 1 b\n"), add(0, "D 9\nE 2 a\nE 2 b\nE 3 a\nE 10 a\nD 1\nE 10 a\nE 9 a\n"),
                add(1, "D 1\nE 9999 a\nC 1 B 9999 - b\nC 2 B 9999 - b\nC 3 A 9 - a\nC 4 A 9 - a\n")]
        self.assertEqual(last(*told, CONTESTED), [5, 0, 2, 0, 9, 0, 10, 1, 9999, 5, 1])

    def test_asked_even_if_all_cannot_be_explained(self):
        self.assertEqual(last(*TWO_MEETINGS, add(2, "D 1\nE 1 a\nE 1 b\n"), CONTESTED), [1, 2, 1])


if __name__ == "__main__":
    unittest.main()
