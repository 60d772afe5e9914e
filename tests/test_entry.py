import unittest

from tests.asking import add, counted, entry, last, standing_in

FAR = 10 ** 18


def standing(*calls, of=(0, 1)):
    """What stands of the entry, as pairs of place and text."""
    return standing_in(last(*calls, entry(*of)))


class NotCorrectedTest(unittest.TestCase):
    def test_told_once(self):
        self.assertEqual(last(add(0, "D 1\nE 1 hi\n"), entry(0, 1)), [1, 0] + counted("hi"))
        self.assertEqual(last(add(0, "D 1\nE 1 \n"), entry(0, 1)), [1, 0, 0])

    def test_all_ways_in_which_it_is_told(self):
        told = [add(0, "D 2\nE 1 a\nE 2 x\nE 1 b\nD 1\nE 1 b\nD 0\nM B 1\n"), add(1, "D 1\nE 1 other\n")]
        self.assertEqual(last(*told, entry(0, 1)), [3, 1] + counted("b") + [2] + counted("a") + [3] + counted("b"))

    def test_corrections_of_others_do_not_count(self):
        told = [add(0, "D 1\nE 1 a\nE 2 b\nC 1 A 2 - c\n"), add(1, "D 1\nC 1 B 1 - d\nC 2 A 11 - e\n")]
        self.assertEqual(standing(*told), [(0, "a")])

    def test_meetings_and_entries_are_no_corrections(self):
        told = [add(1, "D 1\nE 1 a\nE 5 b\nM A 1\nM C 1\n"), add(2, "D 1\nM B 1\n")]
        self.assertEqual(standing(*told, of=(1, 1)), [(0, "a")])


class CorrectedTest(unittest.TestCase):
    def test_one_correction(self):
        self.assertEqual(last(add(0, "D 1\nE 1 a\nE 1 b\nC 1 A 1 - c\n"), entry(0, 1)), [1, 2] + counted("c"))
        self.assertEqual(standing(add(2, "D 1\nE 1 a\n"), add(0, "D 5\nC 3 C 1 - c\n"), of=(2, 1)), [(0, "c")])

    def test_several_that_do_not_know_each_other(self):
        told = [add(0, "D 1\nE 1 a\nC 1 A 1 - b\n"), add(1, "D 1\nC 1 A 1 - c\n"), add(2, "D 1\nC 4 A 1 - d\n")]
        self.assertEqual(standing(*told), [(1, "b"), (2, "c"), (3, "d")])

    def test_one_knows_the_other(self):
        told = [add(0, "D 1\nE 1 a\nC 1 A 1 - b\n"), add(1, "D 1\nC 1 A 1 A1 c\n")]
        self.assertEqual(standing(*told), [(2, "c")])
        told = [add(0, "D 1\nE 1 a\nC 1 A 1 B1 b\n"), add(1, "D 1\nC 1 A 1 - c\n")]
        self.assertEqual(standing(*told), [(1, "b")])

    def test_one_of_three_is_known(self):
        told = [add(0, "D 1\nE 1 a\nC 1 A 1 - b\n"), add(1, "D 1\nC 1 A 1 A1 c\n"), add(2, "D 1\nC 1 A 1 A1 d\n")]
        self.assertEqual(standing(*told), [(2, "c"), (3, "d")])

    def test_knowing_over_several_steps(self):
        told = [add(0, "D 1\nE 1 a\nC 1 A 1 - b\n"), add(1, "D 1\nC 1 A 1 A1 c\n"), add(2, "D 1\nC 1 A 1 B1 d\n")]
        self.assertEqual(standing(*told), [(3, "d")])

    def test_knowing_over_corrections_of_other_entries(self):
        told = [add(0, "D 1\nE 1 a\nC 1 A 1 - b\n"), add(1, "D 1\nC 7 F 9 A1 x\nC 8 A 2 B7 y\n"),
                add(2, "D 1\nC 1 A 1 B8 d\n")]
        self.assertEqual(standing(*told), [(4, "d")])

    def test_correction_of_another_entry_takes_nothing_away(self):
        told = [add(0, "D 1\nE 1 a\nC 1 A 1 - b\n"), add(1, "D 1\nC 1 A 2 A1 x\nC 2 B 1 A1 y\n")]
        self.assertEqual(standing(*told), [(1, "b")])

    def test_corrections_that_know_each_other(self):
        told = [add(0, "D 1\nE 1 a\nC 1 A 1 B1 b\n"), add(1, "D 1\nC 1 A 1 A1 c\n")]
        self.assertEqual(last(*told, entry(0, 1)), [0])
        self.assertEqual(standing(*told, add(2, "D 1\nC 1 A 1 - d\n")), [(3, "d")])

    def test_correction_that_knows_itself_alone(self):
        told = [add(0, "D 1\nE 1 a\nC 1 A 1 B1 b\n"), add(1, "D 1\nC 1 B 9 A1 c\n")]
        self.assertEqual(standing(*told), [(1, "b")])

    def test_known_correction_that_is_not_there(self):
        told = [add(0, "D 1\nE 1 a\nC 1 A 1 - b\n"), add(1, "D 1\nC 1 A 1 C9 c\n")]
        self.assertEqual(standing(*told), [(1, "b"), (2, "c")])
        # Once it comes, what it knows is known too.
        self.assertEqual(standing(*told, add(2, "D 1\nC 9 F 1 A1 x\n")), [(2, "c")])

    def test_same_number_of_another_writer_is_not_known(self):
        told = [add(0, "D 1\nE 1 a\nC 1 A 1 - b\nC 2 A 1 - c\n"), add(1, "D 1\nC 1 A 1 C1,A3 d\n")]
        self.assertEqual(standing(*told), [(1, "b"), (2, "c"), (3, "d")])


class SeveralFactsOfOneCorrectionTest(unittest.TestCase):
    def test_neither_knows_the_other(self):
        told = [add(0, "D 1\nE 1 a\nC 1 A 1 - b\nC 1 A 1 - c\nD 2\nC 1 A 1 - b\n")]
        self.assertEqual(standing(*told), [(1, "b"), (2, "c"), (3, "b")])

    def test_one_knows_the_number_of_the_other(self):
        # A1 with B1 known stands: the one without doesn't know it, and it doesn't take itself away.
        told = [add(0, "D 1\nE 1 a\nC 1 A 1 - b\nC 1 A 1 B1 c\n"), add(1, "D 1\nC 1 F 1 A1 x\n")]
        self.assertEqual(standing(*told), [(2, "c")])

    def test_both_know_their_number(self):
        told = [add(0, "D 1\nE 1 a\nC 1 A 1 B1 b\nC 1 A 1 B1 c\n"), add(1, "D 1\nC 1 F 1 A1 x\n")]
        self.assertEqual(last(*told, entry(0, 1)), [0])

    def test_other_one_that_corrects_another_entry(self):
        told = [add(0, "D 1\nE 1 a\nC 1 A 1 - b\nC 1 A 2 B1 c\n"), add(1, "D 1\nC 1 F 1 A1 x\n")]
        self.assertEqual(standing(*told), [(1, "b")])

    def test_all_facts_of_the_known_number_are_known(self):
        told = [add(0, "D 1\nE 1 a\nC 1 A 1 - b\nC 1 A 1 - c\n"), add(1, "D 1\nC 1 A 1 A1 d\n")]
        self.assertEqual(standing(*told), [(3, "d")])

    def test_all_facts_of_a_known_correction_are_gone_through(self):
        told = [add(0, "D 1\nE 1 a\nC 1 A 1 - b\n"), add(1, "D 1\nC 1 F 1 - x\nC 1 F 2 A1 y\nC 1 F 3 - z\n"),
                add(2, "D 1\nC 1 A 1 B1 d\n")]
        self.assertEqual(standing(*told), [(5, "d")])


class EntryRefusalsTest(unittest.TestCase):
    def test_nobody_tells_it(self):
        one = add(0, "D 1\nE 1 a\nM B 1\n")
        self.assertEqual(last(entry(0, 1)), [-4])
        self.assertEqual(last(one, entry(0, 2)), [-4])
        self.assertEqual(last(one, entry(1, 1)), [-4])
        self.assertEqual(last(one, entry(5, 9999)), [-4])

    def test_corrections_of_an_entry_that_nobody_tells(self):
        self.assertEqual(last(add(0, "D 1\nC 1 B 1 - a\nC 3 A 1 - b\n"), entry(1, 1)), [-4])
        self.assertEqual(last(add(0, "D 1\nC 1 B 1 - a\nC 3 A 1 - b\n"), entry(0, 3)), [-4])

    def test_out_of_range(self):
        one = add(0, "D 1\nE 1 a\n")
        for party, number in [(-1, 1), (6, 1), (FAR, 1), (-FAR, 1), (0, 0), (0, -1), (0, 10000), (0, FAR), (0, -FAR),
                              (6, 0)]:
            self.assertEqual(last(one, entry(party, number)), [-1])
        self.assertEqual(last(add(5, "D 1\nE 9999 a\n"), entry(5, 9999)), [1, 0] + counted("a"))


if __name__ == "__main__":
    unittest.main()
