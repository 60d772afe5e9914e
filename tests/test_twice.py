import unittest

from tests.asking import TWICE, add, last
from tests.heaps import RING, TWO_MEETINGS


class TwiceTest(unittest.TestCase):
    def test_nothing(self):
        self.assertEqual(last(TWICE), [0])
        self.assertEqual(last(add(0, "D 1\nE 1 a\nE 2 a\nC 1 A 1 - b\nC 2 A 1 - b\nM B 1\n"), TWICE), [0])

    def test_entries(self):
        self.assertEqual(last(add(0, "D 1\nE 1 a\nD 2\nE 1 a\n"), TWICE), [2, 0, 1])
        self.assertEqual(last(add(0, "D 1\nE 1 a\nE 1 b\n"), TWICE), [2, 0, 1])
        self.assertEqual(last(add(0, "D 1\nE 1 a\nE 1 b\nE 2 a\nD 2\nE 1 b\n"), TWICE), [3, 0, 1, 3])

    def test_told_again_is_the_same_fact(self):
        self.assertEqual(last(add(0, "D 1\nE 1 a\nE 1 a\n"), add(0, "D 1\nE 1 a\n"), TWICE), [0])
        self.assertEqual(last(add(0, "D 1\nC 1 A 1 B1,C2 a\nC 1 A 1 C2,B1 a\n"), TWICE), [0])

    def test_corrections(self):
        first = "C 1 A 1 B1 a"
        for second in ["C 1 A 1 B1 b", "C 1 A 1 B2 a", "C 1 A 1 - a", "C 1 A 1 B1,B2 a", "C 1 A 2 B1 a", "C 1 B 1 B1 a"]:
            self.assertEqual(last(add(0, f"D 1\n{first}\n{second}\n"), TWICE), [2, 0, 1])
        self.assertEqual(last(add(0, f"D 1\n{first}\nD 2\n{first}\n"), TWICE), [2, 0, 1])
        self.assertEqual(last(add(0, "D 1\nC 1 A 1 - a\nC 2 A 1 - a\nC 1 B 1 - a\nD 0\nC 1 A 1 - a\n"), TWICE),
                         [3, 0, 1, 2])

    def test_other_parties_and_numbers(self):
        self.assertEqual(last(add(0, "D 1\nE 1 a\nE 2 a\n"), add(1, "D 1\nE 1 a\nE 2 b\n"), TWICE), [0])
        self.assertEqual(last(add(0, "D 1\nC 1 A 1 - a\n"), add(1, "D 1\nC 1 A 1 - a\n"), TWICE), [0])

    def test_entry_and_correction_of_one_number(self):
        self.assertEqual(last(add(0, "D 1\nE 1 a\nC 1 A 1 - a\n"), TWICE), [0])
        self.assertEqual(last(add(0, "D 1\nE 1 a\nC 1 A 1 - a\nC 1 A 1 - b\n"), TWICE), [2, 1, 2])

    def test_meetings_never(self):
        self.assertEqual(last(add(0, "D 1\nM B 1\nM B 2\nM C 1\nD 2\nM B 1\n"), TWICE), [0])
        self.assertEqual(last(add(0, "D 1\nM B 1\nM B 2\nE 1 a\nE 1 b\n"), TWICE), [2, 0, 1])
        self.assertEqual(last(*TWO_MEETINGS, TWICE), [0])

    def test_places_of_several_parties(self):
        told = [add(4, "D 3\nE 7 a\nE 7 b\n"), add(1, "D 1\nC 2 A 1 - a\nE 7 x\nD 2\nM A 1\nC 2 A 1 - a\n"),
                add(0, "D 1\nE 7 a\n")]
        self.assertEqual(last(*told, TWICE), [4, 2, 3, 5, 6])

    def test_asked_even_if_all_cannot_be_explained(self):
        self.assertEqual(last(*RING, add(2, "D 1\nE 1 a\nE 1 b\n"), TWICE), [2, 2, 3])


if __name__ == "__main__":
    unittest.main()
