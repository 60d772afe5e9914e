import unittest

from tests.asking import add, knows, last

FAR = 10 ** 18


class KnowsTest(unittest.TestCase):
    def test_nothing(self):
        self.assertEqual(last(add(0, "D 1\nC 1 A 1 - a\n"), knows(0, 1)), [0])

    def test_what_is_told_in_it(self):
        self.assertEqual(last(add(0, "D 1\nC 1 A 1 B2 a\n"), knows(0, 1)), [1, 1, 2])

    def test_rising_order(self):
        self.assertEqual(last(add(0, "D 1\nC 1 A 1 F1,B10,A30,B9 a\n"), knows(0, 1)), [4, 0, 30, 1, 9, 1, 10, 5, 1])
        told = [add(0, "D 1\nC 1 A 1 F1,B10 a\n"), add(5, "D 1\nC 1 A 1 E2,B9 a\n")]
        self.assertEqual(last(*told, knows(0, 1)), [4, 1, 9, 1, 10, 4, 2, 5, 1])

    def test_over_several_steps(self):
        told = [add(0, "D 1\nC 1 A 1 B1 a\n"), add(1, "D 1\nC 1 C 7 C1 a\nC 2 A 1 A1 a\n"), add(2, "D 1\nC 1 A 1 D1 a\n"),
                add(3, "D 1\nC 1 F 3 E1 a\n")]
        self.assertEqual(last(*told, knows(0, 1)), [4, 1, 1, 2, 1, 3, 1, 4, 1])
        self.assertEqual(last(*told, knows(2, 1)), [2, 3, 1, 4, 1])
        self.assertEqual(last(*told, knows(3, 1)), [1, 4, 1])
        self.assertEqual(last(*told, knows(1, 2)), [5, 0, 1, 1, 1, 2, 1, 3, 1, 4, 1])

    def test_known_over_two_ways_comes_once(self):
        told = [add(0, "D 1\nC 1 A 1 B1,C1 a\n"), add(1, "D 1\nC 1 A 1 D1 a\n"), add(2, "D 1\nC 1 A 1 D1 a\n")]
        self.assertEqual(last(*told, knows(0, 1)), [3, 1, 1, 2, 1, 3, 1])

    def test_all_facts_of_a_known_correction(self):
        told = [add(0, "D 1\nC 1 A 1 B1 a\n"), add(1, "D 1\nC 1 A 1 C1 a\nC 1 A 1 D1 a\nD 2\nC 1 B 3 E1,E2 a\n")]
        self.assertEqual(last(*told, knows(0, 1)), [5, 1, 1, 2, 1, 3, 1, 4, 1, 4, 2])

    def test_one_that_is_not_in_the_heap(self):
        told = [add(0, "D 1\nC 1 A 1 B1 a\n"), add(1, "D 1\nE 1 a\nC 2 A 1 C1 a\n")]
        self.assertEqual(last(*told, knows(0, 1)), [1, 1, 1])

    def test_entries_and_meetings_of_the_same_number_are_no_corrections(self):
        told = [add(0, "D 1\nC 1 A 1 B2 a\n"), add(1, "D 1\nE 2 a\nM C 2\n")]
        self.assertEqual(last(*told, knows(0, 1)), [1, 1, 2])
        self.assertEqual(last(*told, knows(1, 2)), [-4])

    def test_one_that_knows_itself(self):
        told = [add(0, "D 1\nC 1 A 1 B1 a\n"), add(1, "D 1\nC 1 A 1 C1 a\n"), add(2, "D 1\nC 1 A 1 A1,F9 a\n")]
        self.assertEqual(last(*told, knows(0, 1)), [4, 0, 1, 1, 1, 2, 1, 5, 9])
        self.assertEqual(last(*told, knows(1, 1)), [4, 0, 1, 1, 1, 2, 1, 5, 9])

    def test_first_one_of_several_facts(self):
        self.assertEqual(last(add(0, "D 1\nC 1 A 1 - a\nC 1 A 1 B1 a\n"), knows(0, 1)), [0])
        self.assertEqual(last(add(0, "D 2\nC 1 A 1 - a\nD 1\nC 1 A 1 B1 a\n"), knows(0, 1)), [1, 1, 1])
        self.assertEqual(last(add(0, "D 1\nC 1 B 1 - a\nC 1 A 2 C1,C2 a\n"), knows(0, 1)), [2, 2, 1, 2, 2])

    def test_first_fact_comes_to_know_the_others_over_a_ring(self):
        told = [add(0, "D 1\nC 1 A 1 B1 a\nD 2\nC 1 A 1 C1 a\n"), add(1, "D 1\nC 1 A 1 A1 a\n")]
        self.assertEqual(last(*told, knows(0, 1)), [3, 0, 1, 1, 1, 2, 1])

    def test_many(self):
        told = [add(0, "D 1\n" + "".join([f"C {j} A 1 A{j + 1},B{j},C{j},D{j} a\n" for j in range(1, 13)]))]
        wanted = [48]
        for party, first, final in [(0, 2, 13), (1, 1, 12), (2, 1, 12), (3, 1, 12)]:
            for number in range(first, final + 1):
                wanted += [party, number]
        self.assertEqual(last(*told, knows(0, 1)), wanted)

    def test_nobody_tells_it(self):
        one = add(0, "D 1\nE 1 a\nE 2 a\nC 1 B 4 C3 a\n")
        self.assertEqual(last(knows(0, 1)), [-4])
        for party, number in [(0, 2), (1, 1), (1, 4), (2, 3), (5, 9999)]:
            self.assertEqual(last(one, knows(party, number)), [-4])

    def test_out_of_range(self):
        one = add(0, "D 1\nC 1 A 1 - a\n")
        for party, number in [(-1, 1), (6, 1), (FAR, 1), (-FAR, 1), (0, 0), (0, -1), (0, 10000), (0, FAR), (0, -FAR)]:
            self.assertEqual(last(one, knows(party, number)), [-1])
        self.assertEqual(last(add(5, "D 1\nC 9999 A 1 - a\n"), knows(5, 9999)), [0])


if __name__ == "__main__":
    unittest.main()
