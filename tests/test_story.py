import unittest

from tests.asking import add, behind, last, story
from tests.heaps import UNEXPLAINED

FAR = 10 ** 18


class StoryTest(unittest.TestCase):
    def test_nothing(self):
        for party in range(6):
            self.assertEqual(last(story(party)), [0, 0])
        self.assertEqual(last(add(0, "D 1\nM B 1\nC 1 A 1 - a\n"), story(0)), [0, 0])

    def test_own_entries(self):
        told = [add(3, "D 9\nE 2 b\nD 0\nE 7 a\n")]
        self.assertEqual(behind(told, story(3), story(2)), [[0, 2, 0, 3, 7, 9, 3, 2], [0, 0]])

    def test_entries_of_one_who_was_met(self):
        told = [add(0, "D 10\nM B 3\nE 1 a\n"), add(1, "D 5\nE 8 a\nD 0\nE 9 a\n")]
        self.assertEqual(behind(told, story(0), story(1)),
                         [[0, 3, 7, 1, 9, 10, 0, 1, 12, 1, 8], [0, 3, 0, 1, 9, 3, 0, 1, 5, 1, 8]])

    def test_days_below_zero(self):
        told = [add(0, "D 2\nE 1 a\nM B 9\n"), add(1, "D 1\nE 1 a\nD 7\nE 2 a\n")]
        self.assertEqual(last(*told, story(0)), [0, 3, -6, 1, 1, 0, 1, 2, 2, 0, 1])

    def test_days_above_the_last_one(self):
        told = [add(0, "D 9999\nM B 0\n"), add(1, "D 9999\nE 1 a\n")]
        self.assertEqual(behind(told, story(0), story(1)), [[0, 1, 19998, 1, 1], [0, 1, 9999, 1, 1]])

    def test_over_third_parties(self):
        told = [add(0, "D 10\nM B 3\n"), add(2, "D 0\nM B 100\nD 4\nE 6 a\n"), add(1, "D 1\nE 1 a\n")]
        self.assertEqual(behind(told, story(0), story(1), story(2), story(3)),
                         [[0, 2, 8, 1, 1, 111, 2, 6], [0, 2, 1, 1, 1, 104, 2, 6], [0, 2, -99, 1, 1, 4, 2, 6], [0, 0]])

    def test_none_of_a_party_whose_count_is_not_known(self):
        both_sides = [add(0, "D 12\nE 2 a\nD 10\nC 1 B 1 - b\n"), add(1, "D 4\nE 1 a\nD 7\nC 1 A 2 - b\n"),
                      add(2, "D 0\nE 1 a\n")]
        self.assertEqual(behind(both_sides, story(0), story(1), story(2)),
                         [[0, 1, 12, 0, 2], [0, 1, 4, 1, 1], [0, 1, 0, 2, 1]])

    def test_known_by_corrections(self):
        told = [add(0, "D 12\nE 2 a\nD 10\nC 1 B 1 - b\n"), add(1, "D 4\nE 1 a\nD 6\nC 1 A 2 - b\n")]
        self.assertEqual(behind(told, story(0), story(1)), [[0, 2, 10, 1, 1, 12, 0, 2], [0, 2, 4, 1, 1, 6, 0, 2]])

    def test_by_days_then_parties_then_numbers(self):
        told = [add(1, "D 5\nE 1 a\nE 10 a\nE 9 a\nM A 15\n"), add(0, "D 15\nE 3 a\nE 20 a\nD 14\nE 30 a\nM C 0\n"),
                add(2, "D 1\nE 2 a\nD 0\nE 1 a\n")]
        self.assertEqual(last(*told, story(0)),
                         [0, 8, 14, 0, 30, 14, 2, 1, 15, 0, 3, 15, 0, 20, 15, 1, 1, 15, 1, 9, 15, 1, 10, 15, 2, 2])

    def test_told_twice(self):
        self.assertEqual(last(add(0, "D 1\nE 1 a\nE 1 b\n"), story(0)), [0, 1, 1, 0, 1])
        self.assertEqual(last(add(0, "D 1\nE 1 a\nD 2\nE 1 a\n"), story(0)), [0, 2, 1, 0, 1, 2, 0, 1])
        told = [add(0, "D 10\nM B 3\n"), add(1, "D 1\nE 1 a\nE 1 b\nD 4\nE 1 b\nE 1 c\n")]
        self.assertEqual(last(*told, story(0)), [0, 2, 8, 1, 1, 11, 1, 1])

    def test_corrected_entries_too(self):
        told = [add(0, "D 1\nE 1 a\nD 2\nC 1 A 1 - b\nC 5 C 1 - b\n"), add(2, "D 0\nE 1 a\n")]
        self.assertEqual(last(*told, story(0)), [0, 1, 1, 0, 1])

    def test_out_of_range(self):
        for party in [-1, 6, FAR, -FAR]:
            self.assertEqual(last(add(0, "D 1\nE 1 a\n"), story(party)), [-1])

    def test_not_explained(self):
        for told in UNEXPLAINED:
            self.assertEqual(behind(told, story(0), story(5), story(6), story(-1)), [[-7], [-7], [-1], [-1]])


if __name__ == "__main__":
    unittest.main()
