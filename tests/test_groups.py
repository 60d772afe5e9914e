import unittest

from tests.asking import GROUPS, add, last
from tests.heaps import UNEXPLAINED


class GroupsTest(unittest.TestCase):
    def test_nothing_told(self):
        self.assertEqual(last(GROUPS), [0, 0, 1, 2, 3, 4, 5])
        self.assertEqual(last(add(3, "D 1\nE 1 a\n"), GROUPS), [0, 0, 1, 2, 3, 4, 5])

    def test_one_group(self):
        self.assertEqual(last(add(0, "D 1\nM B 9\n"), GROUPS), [0, 0, 0, 2, 3, 4, 5])
        self.assertEqual(last(add(5, "D 1\nM B 9\n"), GROUPS), [0, 0, 1, 2, 3, 4, 1])
        self.assertEqual(last(add(2, "D 1\nM A 9\nM B 1\nM D 4\nM E 6\nM F 9\n"), GROUPS), [0, 0, 0, 0, 0, 0, 0])

    def test_two_and_three_groups(self):
        told = [add(0, "D 1\nM D 9\n"), add(2, "D 1\nM B 9\n"), add(4, "D 9\nM D 1\n")]
        self.assertEqual(last(*told, GROUPS), [0, 0, 1, 1, 0, 0, 5])
        told = [add(0, "D 1\nM F 9\n"), add(1, "D 1\nM E 9\n"), add(2, "D 9\nM D 1\n")]
        self.assertEqual(last(*told, GROUPS), [0, 0, 1, 2, 2, 1, 0])

    def test_over_third_parties(self):
        told = [add(5, "D 1\nM A 9\n"), add(5, "D 2\nM B 2\n")]
        self.assertEqual(last(*told, GROUPS), [0, 0, 0, 2, 3, 4, 0])
        told = [add(0, "D 1\nM F 9\n"), add(5, "D 2\nM E 2\n"), add(4, "D 2\nM D 2\n"), add(3, "D 2\nM C 2\n")]
        self.assertEqual(last(*told, GROUPS), [0, 0, 1, 0, 0, 0, 0])

    def test_bounded_but_not_known(self):
        one_side = [add(1, "D 4\nE 1 a\n"), add(0, "D 10\nC 1 B 1 - b\n")]
        self.assertEqual(last(*one_side, GROUPS), [0, 0, 1, 2, 3, 4, 5])
        both_sides = [add(0, "D 12\nE 2 a\nD 10\nC 1 B 1 - b\n"), add(1, "D 4\nE 1 a\nD 7\nC 1 A 2 - b\n")]
        self.assertEqual(last(*both_sides, GROUPS), [0, 0, 1, 2, 3, 4, 5])
        # Of B and D it's known, of A and those two it isn't.
        self.assertEqual(last(*both_sides, add(3, "D 0\nM B 7\n"), GROUPS), [0, 0, 1, 2, 1, 4, 5])

    def test_known_by_corrections(self):
        told = [add(0, "D 12\nE 2 a\nD 10\nC 1 B 1 - b\n"), add(1, "D 4\nE 1 a\nD 6\nC 1 A 2 - b\n")]
        self.assertEqual(last(*told, GROUPS), [0, 0, 0, 2, 3, 4, 5])

    def test_known_over_corrections_of_three(self):
        # Each corrects the next one's entry on that very day: A, B, C and again A.
        told = [add(0, "D 1\nE 1 a\nC 1 B 1 - b\n"), add(1, "D 5\nE 1 a\nC 1 C 1 - b\n"),
                add(2, "D 9\nE 1 a\nC 1 A 1 - b\n")]
        self.assertEqual(last(*told, GROUPS), [0, 0, 0, 0, 3, 4, 5])

    def test_not_explained(self):
        for told in UNEXPLAINED:
            self.assertEqual(last(*told, GROUPS), [-7])


if __name__ == "__main__":
    unittest.main()
