import unittest

from tests.asking import add, ahead, behind, last
from tests.heaps import UNEXPLAINED

FAR = 10 ** 18

NEITHER = [0, 0, 0, 0, 0]


class AheadCase(unittest.TestCase):
    def assert_between(self, told, party, other_party, least, greatest):
        """The least and the greatest number, None for none, asked from both sides."""
        self.assertEqual(last(*told, ahead(party, other_party)), [0] + answered(least) + answered(greatest))
        turned = [None if number is None else -number for number in [greatest, least]]
        self.assertEqual(last(*told, ahead(other_party, party)), [0] + answered(turned[0]) + answered(turned[1]))


def answered(number):
    return [0, 0] if number is None else [1, number]


class NothingToldTest(AheadCase):
    def test_empty_heap(self):
        for party in range(6):
            for other_party in range(6):
                wanted = [0, 1, 0, 1, 0] if party == other_party else NEITHER
                self.assertEqual(last(ahead(party, other_party)), wanted)

    def test_entries_tell_nothing(self):
        self.assert_between([add(0, "D 1\nE 1 a\n"), add(1, "D 9\nE 1 a\nE 1 b\n")], 0, 1, None, None)

    def test_parties_of_whom_nothing_is_told(self):
        self.assert_between([add(0, "D 10\nM B 3\n")], 0, 2, None, None)
        self.assert_between([add(0, "D 10\nM B 3\n")], 4, 5, None, None)

    def test_itself(self):
        told = [add(0, "D 1\nE 1 a\nM B 9\nD 5\nC 1 A 1 - b\nD 6\nC 2 A 1 A1 c\nC 3 B 2 - d\n"), add(1, "D 1\nE 2 a\n")]
        self.assertEqual(behind(told, ahead(0, 0), ahead(1, 1), ahead(5, 5)), [[0, 1, 0, 1, 0]] * 3)


class MeetingTest(AheadCase):
    def test_both_values_are_the_same(self):
        self.assert_between([add(0, "D 10\nM B 3\n")], 0, 1, 7, 7)
        self.assert_between([add(0, "D 3\nM B 10\n")], 0, 1, -7, -7)
        self.assert_between([add(4, "D 10\nM C 3\n")], 4, 2, 7, 7)
        self.assert_between([add(0, "D 5\nM B 5\n")], 0, 1, 0, 0)
        self.assert_between([add(0, "D 9999\nM F 0\n")], 0, 5, 9999, 9999)

    def test_several_that_agree(self):
        self.assert_between([add(0, "D 10\nM B 3\nD 20\nM B 13\n"), add(1, "D 0\nM A 7\n")], 0, 1, 7, 7)

    def test_over_several_parties(self):
        told = [add(0, "D 10\nM B 3\n"), add(2, "D 0\nM B 100\nM D 5\n"), add(4, "D 1\nM D 2\nM F 9999\n")]
        self.assert_between(told, 0, 1, 7, 7)
        self.assert_between(told, 0, 2, 107, 107)
        self.assert_between(told, 0, 3, 102, 102)
        self.assert_between(told, 0, 4, 103, 103)
        self.assert_between(told, 0, 5, -9895, -9895)

    def test_far_apart(self):
        told = [add(party, f"D 9999\nM {'ABCDEF'[party + 1]} 0\n") for party in range(5)]
        self.assert_between(told, 0, 5, 49995, 49995)


class CorrectionTest(AheadCase):
    def test_of_an_entry_of_another_party(self):
        told = [add(1, "D 4\nE 1 a\n"), add(0, "D 10\nC 1 B 1 - b\n")]
        self.assertEqual(behind(told, ahead(0, 1), ahead(1, 0)), [[0, 0, 0, 1, 6], [0, 1, -6, 0, 0]])
        self.assert_between([add(1, "D 10\nE 1 a\n"), add(0, "D 4\nC 1 B 1 - b\n")], 0, 1, None, -6)

    def test_of_an_own_entry(self):
        self.assert_between([add(0, "D 4\nE 1 a\nD 10\nC 1 A 1 - b\n")], 0, 1, None, None)

    def test_least_and_greatest_not_the_same(self):
        told = [add(0, "D 12\nE 2 a\nD 10\nC 1 B 1 - b\n"), add(1, "D 4\nE 1 a\nD 9\nC 1 A 2 - b\n")]
        self.assert_between(told, 0, 1, 3, 6)

    def test_least_and_greatest_the_same_without_a_meeting(self):
        told = [add(0, "D 12\nE 2 a\nD 10\nC 1 B 1 - b\n"), add(1, "D 4\nE 1 a\nD 6\nC 1 A 2 - b\n")]
        self.assert_between(told, 0, 1, 6, 6)

    def test_told_as_known(self):
        told = [add(1, "D 4\nC 1 D 9 - a\n"), add(0, "D 10\nC 1 D 9 B1 b\n")]
        self.assert_between(told, 0, 1, None, 6)

    def test_each_one_that_is_told_as_known(self):
        told = [add(1, "D 4\nC 1 F 9 - a\n"), add(2, "D 5\nC 7 F 9 - a\n"), add(3, "D 6\nC 8 F 9 - a\n"),
                add(4, "D 7\nC 9 F 9 - a\n"), add(0, "D 10\nC 1 F 9 B1,C7,D8,E9 b\n")]
        for party, greatest in [(1, 6), (2, 5), (3, 4), (4, 3), (5, None)]:
            self.assert_between(told, 0, party, None, greatest)

    def test_entry_told_in_several_facts(self):
        for days in [(4, 7, 5), (7, 5, 4), (4, 5, 7)]:
            text = "".join([f"D {number}\nE 1 a\n" for number in days])
            self.assert_between([add(1, text), add(0, "D 10\nC 1 B 1 - b\n")], 0, 1, None, 3)

    def test_known_correction_told_in_several_facts(self):
        for days in [(4, 7, 5), (7, 5, 4), (4, 5, 7)]:
            text = "".join([f"D {number}\nC 1 D 9 - a\n" for number in days])
            self.assert_between([add(1, text), add(0, "D 10\nC 1 D 9 B1 b\n")], 0, 1, None, 3)
        told = [add(1, "D 4\nC 1 D 9 - a\nD 7\nC 1 F 8 E3 x\n"), add(0, "D 10\nC 1 D 9 B1 b\n")]
        self.assert_between(told, 0, 1, None, 3)

    def test_correcting_one_told_in_several_facts(self):
        told = [add(1, "D 4\nE 1 a\n"), add(0, "D 10\nC 1 B 1 - b\nD 8\nC 1 B 1 - b\nD 9\nC 1 B 1 - c\n")]
        self.assert_between(told, 0, 1, None, 4)

    def test_entry_that_nobody_tells(self):
        told = [add(1, "D 4\nE 2 a\nC 1 A 7 - a\nM F 1\n"), add(2, "D 4\nE 1 a\n"), add(0, "D 10\nC 1 B 1 - b\n")]
        self.assert_between(told, 0, 1, None, None)
        self.assert_between(told, 0, 2, None, None)

    def test_known_correction_that_nobody_tells(self):
        told = [add(1, "D 4\nE 1 a\nC 2 A 7 - a\nM F 1\n"), add(2, "D 4\nC 1 A 7 - a\n"), add(0, "D 10\nC 1 D 9 B1 b\n")]
        self.assert_between(told, 0, 1, None, None)
        self.assert_between(told, 0, 2, None, None)

    def test_lines_come_with_the_facts(self):
        told = [add(0, "D 10\nC 1 B 1 B7 b\n"), ahead(0, 1), add(1, "D 4\nE 1 a\n"), ahead(0, 1),
                add(1, "D 5\nC 7 E 1 - a\n"), ahead(0, 1), [0], ahead(0, 1)]
        self.assertEqual(behind([], *told)[1::2], [NEITHER, [0, 0, 0, 1, 6], [0, 0, 0, 1, 5], NEITHER])


class ChainTest(AheadCase):
    def test_corrections_over_several_parties(self):
        told = [add(1, "D 4\nE 1 a\nD 7\nC 1 C 1 - a\n"), add(0, "D 10\nC 1 B 1 - b\n"), add(2, "D 2\nE 1 a\n")]
        self.assert_between(told, 0, 2, None, 11)

    def test_corrections_that_lead_apart_tell_nothing(self):
        told = [add(1, "D 4\nC 1 A 1 - a\nC 2 C 1 - b\n"), add(0, "D 1\nE 1 a\n"), add(2, "D 2\nE 1 a\n")]
        self.assert_between(told, 0, 2, None, None)

    def test_other_way_round_is_nearer(self):
        # A to C directly 20; A to B 6 and B to C 5.
        told = [add(0, "D 10\nC 1 B 1 - b\nD 22\nC 2 C 1 - b\n"), add(1, "D 4\nE 1 a\nD 7\nC 1 C 1 - a\n"),
                add(2, "D 2\nE 1 a\n")]
        self.assert_between(told, 0, 2, None, 11)

    def test_direct_line_is_nearer(self):
        told = [add(0, "D 10\nC 1 B 1 - b\nC 2 C 1 - b\n"), add(1, "D 4\nE 1 a\nD 7\nC 1 C 1 - a\n"),
                add(2, "D 2\nE 1 a\n")]
        self.assert_between(told, 0, 2, None, 8)

    def test_meetings_and_corrections_together(self):
        told = [add(5, "D 0\nM E 50\n"), add(4, "D 60\nC 1 D 3 - b\nE 4 a\n"),
                add(3, "D 10\nE 3 a\nD 20\nC 1 E 4 - b\n")]
        self.assert_between(told, 4, 3, 40, 50)
        self.assert_between(told, 5, 3, -10, 0)
        self.assert_between(told, 5, 4, -50, -50)

    def test_chain_over_all_parties_in_one_direction(self):
        told = [add(party, f"D 1\nE 1 a\nD 3\nC 1 {'ABCDEF'[(party + 1) % 6]} 1 - b\n") for party in range(6)]
        for party in range(1, 6):
            self.assert_between(told, 0, party, -2 * (6 - party), 2 * party)


class RefusalsTest(AheadCase):
    def test_out_of_range(self):
        for party, other_party in [(-1, 0), (6, 0), (0, -1), (0, 6), (FAR, 1), (-FAR, 1), (1, FAR), (1, -FAR), (6, 6)]:
            self.assertEqual(last(ahead(party, other_party)), [-1])

    def test_not_explained(self):
        for told in UNEXPLAINED:
            for party, other_party in [(0, 1), (1, 0), (0, 0), (4, 5), (5, 5)]:
                self.assertEqual(last(*told, ahead(party, other_party)), [-7])

    def test_out_of_range_comes_first(self):
        for told in UNEXPLAINED:
            self.assertEqual(behind(told, ahead(6, 0), ahead(0, -1)), [[-1], [-1]])


if __name__ == "__main__":
    unittest.main()
