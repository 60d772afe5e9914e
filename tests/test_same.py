import unittest

from tests.asking import add, behind, last, same
from tests.heaps import UNEXPLAINED

FAR = 10 ** 18

MET = [add(0, "D 10\nM B 3\n")]


class SameTest(unittest.TestCase):
    def test_count_of_the_other(self):
        self.assertEqual(behind(MET, same(0, 10, 1), same(1, 3, 0), same(0, 20, 1), same(1, 20, 0)),
                         [[0, 3], [0, 10], [0, 13], [0, 27]])

    def test_below_zero(self):
        self.assertEqual(behind(MET, same(0, 0, 1), same(0, 6, 1), same(0, 7, 1)), [[0, -7], [0, -1], [0, 0]])

    def test_above_the_last_day(self):
        self.assertEqual(behind(MET, same(1, 9999, 0), same(1, 9993, 0), same(1, 9992, 0)),
                         [[0, 10006], [0, 10000], [0, 9999]])

    def test_with_itself(self):
        self.assertEqual(behind(MET, same(0, 0, 0), same(1, 9999, 1), same(5, 17, 5)), [[0, 0], [0, 9999], [0, 17]])
        self.assertEqual(last(same(3, 5, 3)), [0, 5])

    def test_over_others(self):
        told = [add(0, "D 10\nM B 3\n"), add(2, "D 0\nM B 100\n")]
        self.assertEqual(behind(told, same(0, 107, 2), same(2, 0, 0), same(0, 0, 2)), [[0, 0], [0, 107], [0, -107]])

    def test_known_by_corrections(self):
        told = [add(0, "D 12\nE 2 a\nD 10\nC 1 B 1 - b\n"), add(1, "D 4\nE 1 a\nD 6\nC 1 A 2 - b\n")]
        self.assertEqual(behind(told, same(0, 10, 1), same(1, 6, 0)), [[0, 4], [0, 12]])

    def test_not_known(self):
        self.assertEqual(behind(MET, same(0, 1, 2), same(2, 1, 1), same(4, 1, 5)), [[-9], [-9], [-9]])
        self.assertEqual(last(same(0, 1, 1)), [-9])

    def test_bounded_on_one_side_is_not_known(self):
        told = [add(1, "D 4\nE 1 a\n"), add(0, "D 10\nC 1 B 1 - b\n")]
        self.assertEqual(behind(told, same(0, 10, 1), same(1, 4, 0)), [[-9], [-9]])

    def test_bounded_on_both_sides_is_not_known(self):
        told = [add(0, "D 12\nE 2 a\nD 10\nC 1 B 1 - b\n"), add(1, "D 4\nE 1 a\nD 7\nC 1 A 2 - b\n")]
        self.assertEqual(behind(told, same(0, 10, 1), same(1, 4, 0)), [[-9], [-9]])

    def test_out_of_range(self):
        for party, number, other_party in [(-1, 1, 1), (6, 1, 1), (FAR, 1, 1), (-FAR, 1, 1), (0, -1, 1), (0, 10000, 1),
                                           (0, FAR, 1), (0, -FAR, 1), (0, 1, -1), (0, 1, 6), (0, 1, FAR), (0, 1, -FAR)]:
            self.assertEqual(last(*MET, same(party, number, other_party)), [-1])
        self.assertEqual(behind(MET, same(0, 0, 1), same(0, 9999, 1)), [[0, -7], [0, 9992]])

    def test_order_of_refusals(self):
        for told in UNEXPLAINED:
            self.assertEqual(behind(told, same(6, 0, 0), same(0, 10000, 0), same(0, 0, 6), same(0, 0, 0), same(4, 0, 5)),
                             [[-1], [-1], [-1], [-7], [-7]])
        self.assertEqual(behind(MET, same(6, 0, 0), same(0, 10000, 2), same(0, 0, 6)), [[-1], [-1], [-1]])


if __name__ == "__main__":
    unittest.main()
