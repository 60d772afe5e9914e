import unittest

from tests.asking import CLASH, CLEAR, add, ask, fact, last
from tests.heaps import BEFORE_ITS_ENTRY, RING, TWO_MEETINGS

LETTERS = "ABCDEF"


def one_way(*lines):
    """Lines between parties that lead one way only, each as from which, to which and its number: the adds.

    Each is a correction by the first one on its day 50 + number of an entry of the second one of its day 50."""
    calls = []
    for at, (party, other, number) in enumerate(lines, start=1):
        calls.append(add(other, f"D 50\nE {at} a\n"))
        calls.append(add(party, f"D {50 + number}\nC {at} {LETTERS[other]} {at} - c\n"))
    return calls


class ClashCase(unittest.TestCase):
    def assert_chain(self, told, *lines):
        """The lines with their sources."""
        answer = last(*told, CLASH)
        self.assertEqual(answer[:2], [1, len(lines)])
        self.assertEqual([tuple(answer[at:at + 4]) for at in range(2, len(answer), 4)], list(lines))

    def assert_lines(self, told, *lines):
        """The lines without their sources."""
        answer = last(*told, CLASH)
        self.assertEqual(answer[:2], [1, len(lines)])
        self.assertEqual([tuple(answer[at:at + 3]) for at in range(2, len(answer), 4)], list(lines))

    def assert_ring(self, told, *places):
        self.assertEqual(last(*told, CLASH), [2, len(places)] + list(places))

    def assert_explained(self, *told):
        self.assertEqual(last(*told, CLASH), [0])


class ExplainedTest(ClashCase):
    def test_nothing_told(self):
        self.assert_explained()
        self.assert_explained(add(0, "D 1\nE 1 a\nE 1 b\nD 9\nE 1 a\n"))

    def test_meetings_that_agree(self):
        self.assert_explained(add(0, "D 10\nM B 3\nD 20\nM B 13\n"), add(1, "D 0\nM A 7\nM C 9\n"),
                              add(2, "D 10\nM A 8\n"))

    def test_correction_of_the_day_of_the_entry(self):
        self.assert_explained(add(0, "D 5\nE 1 a\nC 1 A 1 - b\nC 2 A 1 A1 c\nD 6\nC 3 A 1 A1,A2 d\n"))

    def test_correction_before_an_entry_that_nobody_tells(self):
        self.assert_explained(add(0, "D 3\nC 1 A 1 A9 b\nD 5\nE 2 a\nC 2 A 1 - b\n"))

    def test_chain_with_sum_zero(self):
        self.assert_explained(*one_way((0, 1, 5), (1, 2, -3), (2, 0, -2)))
        self.assert_lines(one_way((0, 1, 5), (1, 2, -3), (2, 0, -3)), (0, 1, 5), (1, 2, -3), (2, 0, -3))

    def test_corrections_that_know_earlier_ones(self):
        self.assert_explained(add(0, "D 1\nC 1 A 9 B1,C1 a\n"), add(1, "D 1\nC 1 A 9 C1 a\n"), add(2, "D 1\nC 1 A 9 D1 a\n"))

    def test_two_ways_of_one_correction_are_no_ring(self):
        # A1 is told with B1 known and without; B1 knows nothing.
        self.assert_explained(add(0, "D 1\nC 1 A 9 - a\nC 1 A 9 B1 a\n"), add(1, "D 1\nC 1 A 9 C1 a\n"))

    def test_after_clear(self):
        self.assertEqual(ask(*TWO_MEETINGS, CLASH, CLEAR, CLASH)[1:],
                         [[1, 2, 0, 1, 7, 0, 1, 0, -8, 1], [0], [0]])


class ChainOfOneLineTest(ClashCase):
    def test_correction_before_its_own_entry(self):
        self.assertEqual(last(*BEFORE_ITS_ENTRY, CLASH), [1, 1, 0, 0, -2, 0])
        self.assert_chain([add(5, "D 0\nE 2 x\nC 3 F 1 - b\nD 9999\nE 1 a\n")], (5, 5, -9999, 1))

    def test_correction_before_its_own_known_one(self):
        self.assert_chain([add(3, "D 3\nC 1 B 9 D2 a\nD 5\nC 2 B 9 - a\n")], (3, 3, -2, 0))

    def test_entry_told_on_several_days(self):
        self.assert_chain([add(0, "D 3\nC 1 A 1 - b\nD 1\nE 1 a\nD 5\nE 1 a\nD 7\nE 1 a\n")], (0, 0, -4, 1))

    def test_least_sum(self):
        self.assert_chain([add(0, "D 3\nC 1 A 1 - b\nD 2\nC 2 A 1 - b\nD 4\nC 3 A 1 - b\nD 5\nE 1 a\n")], (0, 0, -3, 0))

    def test_least_source(self):
        self.assert_chain([add(0, "D 3\nC 1 A 1 - b\nC 2 A 1 - b\nD 5\nE 1 a\n")], (0, 0, -2, 0))

    def test_least_party(self):
        told = [add(2, "D 3\nC 1 C 1 - b\nD 99\nE 1 a\n"), add(1, "D 3\nC 1 B 1 - b\nD 4\nE 1 a\n")]
        self.assert_chain(told, (1, 1, -1, 0))

    def test_before_chains_of_two_lines(self):
        told = [add(5, "D 3\nC 1 F 1 - b\nD 4\nE 1 a\n")]
        self.assert_chain(TWO_MEETINGS + told, (5, 5, -1, 2))


class LongerChainsTest(ClashCase):
    def test_two_meetings(self):
        self.assertEqual(last(*TWO_MEETINGS, CLASH), [1, 2, 0, 1, 7, 0, 1, 0, -8, 1])
        self.assert_chain([add(0, "D 10\nM B 3\n"), add(1, "D 3\nM A 9\n")], (0, 1, 6, 1), (1, 0, -7, 0))
        self.assert_chain([add(0, "D 10\nM B 3\n"), add(1, "D 3\nM A 12\n")], (0, 1, 7, 0), (1, 0, -9, 1))

    def test_two_meetings_that_begin_not_at_the_first_party(self):
        self.assert_chain([add(4, "D 10\nM D 3\n"), add(3, "D 3\nM E 9\n")], (3, 4, -7, 1), (4, 3, 6, 0))

    def test_meeting_and_correction(self):
        told = [add(0, "D 10\nM B 3\n"), add(1, "D 20\nE 1 a\n"), add(0, "D 26\nC 1 B 1 - b\n")]
        self.assert_chain(told, (0, 1, 6, 1), (1, 0, -7, 0))
        told = [add(0, "D 10\nM B 3\n"), add(1, "D 20\nE 1 a\n"), add(0, "D 27\nC 1 B 1 - b\n")]
        self.assert_explained(*told)

    def test_two_corrections(self):
        told = [add(0, "D 5\nC 1 B 1 - b\nD 6\nE 1 a\n"), add(1, "D 5\nC 1 A 1 - b\nD 5\nE 1 a\n")]
        # A to B with 5 - 5, B to A with 5 - 6.
        self.assert_chain(told, (0, 1, 0, 0), (1, 0, -1, 3))

    def test_known_corrections(self):
        told = [add(0, "D 5\nC 1 F 1 B2 b\nD 6\nC 2 F 1 - b\n"), add(1, "D 5\nC 1 F 1 A2 b\nC 2 F 1 - b\n")]
        self.assert_chain(told, (0, 1, 0, 0), (1, 0, -1, 2))

    def test_ring_of_meetings_of_each_length(self):
        for length in range(3, 7):
            told = [add(party, f"D 10\nM {LETTERS[party + 1]} 10\n") for party in range(length - 1)]
            late = add(length - 1, "D 10\nM A 9\n")
            lines = [(0, length - 1, -1, length - 1)]
            lines += [(party, party - 1, 0, party - 1) for party in range(length - 1, 0, -1)]
            self.assert_chain(told + [late], *lines)
            early = add(length - 1, "D 10\nM A 11\n")
            lines = [(party, party + 1, 0, party) for party in range(length - 1)] + [(length - 1, 0, -1, length - 1)]
            self.assert_chain(told + [early], *lines)

    def test_ring_of_corrections_over_six_parties(self):
        told = one_way((0, 3, 4), (3, 1, 4), (1, 5, 4), (5, 2, 4), (2, 4, 4), (4, 0, -21))
        self.assert_lines(told, (0, 3, 4), (3, 1, 4), (1, 5, 4), (5, 2, 4), (2, 4, 4), (4, 0, -21))
        self.assert_explained(*one_way((0, 3, 4), (3, 1, 4), (1, 5, 4), (5, 2, 4), (2, 4, 4), (4, 0, -20)))


class ChoiceOfChainsTest(ClashCase):
    def test_fewest_lines_first(self):
        told = one_way((0, 1, 0), (1, 2, 0), (2, 0, -40), (4, 5, 0), (5, 4, -1))
        self.assert_lines(told, (4, 5, 0), (5, 4, -1))
        told = one_way((0, 1, 0), (1, 0, -40), (5, 5, -1))
        self.assert_lines(told, (5, 5, -1))

    def test_fewer_lines_over_the_same_parties(self):
        # The chain of three has the lesser sum; A and B alone have one too.
        told = one_way((0, 1, 1), (1, 0, -2), (1, 2, -20), (2, 0, 3))
        self.assert_lines(told, (0, 1, 1), (1, 0, -2))

    def test_least_party_next(self):
        told = one_way((1, 2, 0), (2, 1, -40), (0, 5, 0), (5, 0, -1))
        self.assert_lines(told, (0, 5, 0), (5, 0, -1))
        told = one_way((2, 5, 0), (5, 2, -1), (3, 4, 0), (4, 3, -40))
        self.assert_lines(told, (2, 5, 0), (5, 2, -1))

    def test_least_party_of_the_chain_begins_it(self):
        told = one_way((5, 3, -1), (3, 4, 0), (4, 5, 0))
        self.assert_lines(told, (3, 4, 0), (4, 5, 0), (5, 3, -1))
        told = one_way((4, 3, 0), (3, 5, -1), (5, 4, 0))
        self.assert_lines(told, (3, 5, -1), (5, 4, 0), (4, 3, 0))

    def test_least_sum_next(self):
        told = one_way((0, 1, 0), (1, 0, -1), (0, 2, 0), (2, 0, -2), (0, 3, 9), (3, 0, -10))
        self.assert_lines(told, (0, 2, 0), (2, 0, -2))
        told = one_way((0, 1, 3), (1, 2, 3), (2, 0, -7), (0, 3, 9), (3, 2, -4))
        self.assert_lines(told, (0, 3, 9), (3, 2, -4), (2, 0, -7))

    def test_least_sum_takes_the_shortest_line(self):
        told = one_way((0, 1, 4), (0, 1, 3), (0, 1, 5), (1, 0, -7), (1, 0, -6))
        self.assert_lines(told, (0, 1, 3), (1, 0, -7))

    def test_least_second_party_next(self):
        told = one_way((0, 2, 0), (2, 0, -1), (0, 1, 4), (1, 0, -5), (0, 3, 1), (3, 0, -2))
        self.assert_lines(told, (0, 1, 4), (1, 0, -5))
        told = one_way((0, 3, 9), (3, 2, -3), (2, 0, -7), (0, 1, 3), (1, 2, 3))
        self.assert_lines(told, (0, 1, 3), (1, 2, 3), (2, 0, -7))

    def test_least_third_party_next(self):
        told = one_way((0, 3, 0), (3, 2, 0), (2, 0, -5), (3, 1, 7), (1, 0, -12))
        self.assert_lines(told, (0, 3, 0), (3, 1, 7), (1, 0, -12))
        told = one_way((0, 3, 0), (3, 2, 0), (2, 0, -5), (3, 1, 7), (1, 0, -11))
        self.assert_lines(told, (0, 3, 0), (3, 2, 0), (2, 0, -5))

    def test_least_fourth_and_later_parties(self):
        told = one_way((0, 1, 0), (1, 4, 0), (4, 3, 0), (3, 0, -5), (4, 2, 1), (2, 0, -6))
        self.assert_lines(told, (0, 1, 0), (1, 4, 0), (4, 2, 1), (2, 0, -6))
        told = one_way((0, 1, 0), (1, 2, 0), (2, 5, 0), (5, 4, 0), (4, 0, -5), (5, 3, 2), (3, 0, -7))
        self.assert_lines(told, (0, 1, 0), (1, 2, 0), (2, 5, 0), (5, 3, 2), (3, 0, -7))

    def test_second_party_before_third(self):
        told = one_way((0, 1, 0), (1, 5, 0), (5, 0, -5), (0, 2, 0), (2, 3, 0), (3, 0, -5))
        self.assert_lines(told, (0, 1, 0), (1, 5, 0), (5, 0, -5))

    def test_least_source_last(self):
        told = [add(0, "D 5\nM B 5\nD 6\nM B 6\nD 7\nM B 8\n"), add(1, "D 0\nM A 0\n")]
        self.assert_chain(told, (0, 1, -1, 2), (1, 0, 0, 0))
        told = [add(0, "D 7\nM B 8\nD 8\nM B 9\n"), add(1, "D 0\nM A 0\nD 1\nM A 1\n")]
        self.assert_chain(told, (0, 1, -1, 0), (1, 0, 0, 2))

    def test_least_source_of_unlike_kinds(self):
        # A's correction of B's entry and a meeting that B tells both say A to B with 3.
        told = [add(1, "D 2\nE 1 a\nD 0\nM A 3\n"), add(0, "D 5\nC 1 B 1 - b\nD 9\nM B 5\n")]
        self.assert_chain(told, (0, 1, 3, 0), (1, 0, -4, 1))

    def test_sources_move_with_the_places(self):
        told = TWO_MEETINGS + [add(0, "D 0\nE 1 a\nE 2 a\nD 11\nE 3 a\n")]
        self.assert_chain(told, (0, 1, 7, 2), (1, 0, -8, 4))

    def test_chain_before_ring(self):
        told = RING + [add(4, "D 10\nM F 3\n"), add(5, "D 3\nM E 9\n")]
        self.assert_chain(told, (4, 5, 6, 3), (5, 4, -7, 2))
        self.assert_chain([add(0, "D 1\nC 1 A 9 A2 a\nD 2\nC 2 A 9 A1 a\n")], (0, 0, -1, 0))


class RingTest(ClashCase):
    def test_two_on_one_day(self):
        self.assertEqual(last(*RING, CLASH), [2, 2, 0, 1])
        self.assert_ring([add(3, "D 1\nE 1 a\nC 1 A 9 D2 a\nC 2 A 8 D1 a\n")], 1, 2)

    def test_two_on_unlike_days(self):
        self.assert_ring([add(0, "D 1\nC 1 A 9 B1 a\n"), add(1, "D 77\nC 1 A 9 A1 a\n")], 0, 1)

    def test_each_length_to_twelve(self):
        for length in range(2, 13):
            lines = [f"C {number} A 99 A{number % length + 1} a" for number in range(1, length + 1)]
            self.assert_ring([add(0, "D 1\n" + "\n".join(lines))], *range(length))

    def test_twelve_the_other_way_round(self):
        lines = [f"C {number} A 99 A{(number - 2) % 12 + 1} a" for number in range(1, 13)]
        self.assert_ring([add(0, "D 1\n" + "\n".join(lines))], 0, *range(11, 0, -1))

    def test_over_six_parties(self):
        told = [add(party, f"D {party}\nC 1 A 9 {LETTERS[(party + 5) % 6]}1 a\n") for party in range(6)]
        self.assert_ring(told, 0, 5, 4, 3, 2, 1)

    def test_begins_with_the_least_place_of_the_ring(self):
        told = [add(0, "D 1\nE 1 a\nC 1 A 9 B1 a\n"), add(1, "D 1\nC 1 A 9 D1 a\n"), add(3, "D 1\nC 1 A 9 C1 a\n"),
                add(2, "D 1\nC 1 A 9 B1 a\n")]
        self.assert_ring(told, 2, 4, 3)

    def test_over_one_of_two_facts(self):
        told = [add(0, "D 1\nC 1 A 9 - a\nC 1 A 9 B1 a\n"), add(1, "D 1\nC 1 A 9 A1 a\n")]
        self.assert_ring(told, 1, 2)
        told = [add(0, "D 1\nC 1 A 9 B1 a\nC 1 A 9 - b\n"), add(1, "D 1\nC 1 A 9 A1 a\n")]
        self.assert_ring(told, 1, 2)

    def test_over_the_first_of_two_facts(self):
        told = [add(0, "D 1\nC 1 A 9 B1 a\nC 1 A 9 B1 b\n"), add(1, "D 1\nC 1 A 9 A1 a\n")]
        self.assert_ring(told, 0, 2)

    def test_two_facts_of_each(self):
        told = [add(0, "D 1\nC 1 A 9 C1 a\nC 1 A 9 B1 b\n"), add(1, "D 1\nC 1 A 9 C1 a\nC 1 A 9 A1 b\n")]
        # A1 is at the places 0 (with B1 known) and 1, B1 at 2 (with A1 known) and 3.
        self.assert_ring(told, 0, 2)


class ChoiceOfRingsTest(ClashCase):
    def test_as_few_as_there_can_be(self):
        told = [add(0, "D 1\nC 1 A 9 A2 a\nC 2 A 9 A3 a\nC 3 A 9 A1 a\n"), add(1, "D 1\nC 1 A 9 B2 a\nC 2 A 9 B1 a\n")]
        self.assert_ring(told, 3, 4)
        told = [add(0, "D 1\nC 1 A 9 A2 a\nC 2 A 9 A3 a\nC 3 A 9 A1,A2 a\n")]
        self.assert_ring(told, 1, 2)

    def test_least_first_place(self):
        told = [add(0, "D 1\nC 1 A 9 A4 a\nC 2 A 9 A3 a\nC 3 A 9 A2 a\nC 4 A 9 A1 a\n")]
        self.assert_ring(told, 0, 3)
        told = [add(0, "D 1\nC 1 A 9 A2 a\nC 2 A 9 A5,A3 a\nC 3 A 9 A4,A2 a\nC 4 A 9 A3 a\nC 5 A 9 A2 a\n")]
        self.assert_ring(told, 1, 2)

    def test_least_second_place(self):
        told = [add(0, "D 1\nC 1 A 9 A4,A3,A2 a\nC 2 A 9 - a\nC 3 A 9 A1 a\nC 4 A 9 A1 a\n")]
        self.assert_ring(told, 0, 2)

    def test_least_third_place(self):
        told = [add(0, "D 1\nC 1 A 9 A2 a\nC 2 A 9 A4,A3 a\nC 3 A 9 A1 a\nC 4 A 9 A1 a\n")]
        self.assert_ring(told, 0, 1, 2)
        told = [add(0, "D 1\nC 1 A 9 A5 a\nC 2 A 9 A3 a\nC 3 A 9 A1 a\nC 4 A 9 A1 a\nC 5 A 9 A4,A3,A2 a\n")]
        self.assert_ring(told, 0, 4, 2)

    def test_second_place_before_third(self):
        told = [add(0, "D 1\nC 1 A 9 A2,A3 a\nC 2 A 9 A5 a\nC 3 A 9 A4 a\nC 4 A 9 A1 a\nC 5 A 9 A1 a\n")]
        self.assert_ring(told, 0, 1, 4)

    def test_places_not_numbers_decide(self):
        # A1 and A2 are of a later day than A7 and A8.
        told = [add(0, "D 5\nC 1 F 9 A2 a\nC 2 F 9 A1 a\nD 1\nC 7 F 9 A8 a\nC 8 F 9 A7 a\n")]
        self.assert_ring(told, 0, 1)
        self.assertEqual(last(*told, fact(0))[:4], [0, 1, 1, 7])

    def test_places_count_all_facts(self):
        told = [add(0, "D 0\nE 1 a\nE 2 a\nM B 4\n"), add(2, "D 1\nE 1 a\nC 1 A 9 D1 a\n"), add(3, "D 1\nC 1 A 9 C1 a\n")]
        self.assert_ring(told, 4, 5)


if __name__ == "__main__":
    unittest.main()
