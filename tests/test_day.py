import unittest

from tests.asking import add, ask, day, last

FAR = 10 ** 18

JOURNALS = [add(1, "D 4\nM A 1\nE 1 a\nC 1 A 1 - b\nD 0\nE 2 a\nD 9999\nE 3 a\n"), add(2, "D 4\nE 1 a\n"),
            add(0, "D 5\nE 1 a\n")]


class DayTest(unittest.TestCase):
    def test_places_the_least_first(self):
        self.assertEqual(last(*JOURNALS, day(1, 4)), [3, 2, 3, 4])
        self.assertEqual(last(*JOURNALS, day(2, 4)), [1, 6])

    def test_first_and_last_day(self):
        self.assertEqual(last(*JOURNALS, day(1, 0)), [1, 1])
        self.assertEqual(last(*JOURNALS, day(1, 9999)), [1, 5])

    def test_day_with_none(self):
        self.assertEqual(ask(*JOURNALS, day(0, 4), day(1, 5), day(3, 4), day(5, 9999))[3:], [[0], [0], [0], [0]])

    def test_day_of_the_one_who_was_met_does_not_count(self):
        self.assertEqual(last(*JOURNALS, day(0, 1)), [0])

    def test_out_of_range(self):
        for party, number in [(-1, 4), (6, 4), (FAR, 4), (-FAR, 4), (1, -1), (1, 10000), (1, FAR), (1, -FAR)]:
            self.assertEqual(last(*JOURNALS, day(party, number)), [-1])


if __name__ == "__main__":
    unittest.main()
