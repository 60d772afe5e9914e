import unittest

from tests.asking import add, ask, last, print_of, printed

FAR = 10 ** 18


class PrintTest(unittest.TestCase):
    def test_count_of_bytes_comes_first(self):
        self.assertEqual(last(add(0, "D 1\nE 2 a"), print_of(0)),
                         [10, 68, 32, 49, 10, 69, 32, 50, 32, 97, 10])

    def test_party_without_facts(self):
        self.assertEqual(ask(print_of(0), add(0, "D 1\nE 1 a\n"), print_of(1), add(1, "D 1\nD 2\n"), print_of(1)),
                         [[0], [1], [0], [0], [0]])

    def test_heap_order(self):
        text = "D 10\nM C 1\nC 2 A 1 - y\nE 2 x\nM B 7\nC 1 A 1 - z\nE 1 w\nD 9\nM F 0\n"
        self.assertEqual(printed(0, add(0, text)),
                         "D 9\nM F 0\nD 10\nE 1 w\nE 2 x\nC 1 A 1 - z\nC 2 A 1 - y\nM B 7\nM C 1\n")

    def test_day_lines_just_where_they_are_due(self):
        text = "D 3\nD 0\nD 4\nE 1 a\nD 4\nE 2 b\n\nD 0\nE 3 c\nD 4\nM B 0\nD 77\n"
        self.assertEqual(printed(0, add(0, text)), "D 0\nE 3 c\nD 4\nE 1 a\nE 2 b\nM B 0\n")

    def test_day_line_before_the_first_fact_of_day_zero(self):
        self.assertEqual(printed(0, add(0, "D 0\nE 1 a")), "D 0\nE 1 a\n")

    def test_own_facts_alone(self):
        adds = [add(0, "D 1\nE 1 a\n"), add(1, "D 1\nE 1 b\n"), add(2, "D 1\nE 1 c\n")]
        self.assertEqual(printed(0, *adds), "D 1\nE 1 a\n")
        self.assertEqual(printed(1, *adds), "D 1\nE 1 b\n")
        self.assertEqual(printed(2, *adds), "D 1\nE 1 c\n")
        self.assertEqual(printed(3, *adds), "")

    def test_known_in_rising_order(self):
        text = "D 1\nC 1 F 9999 F1,B11,A9,B10 a\nC 2 B 3 C1,A10,A9 b\nC 3 B 3 E5 c\nC 4 B 3 - d\n"
        self.assertEqual(printed(0, add(0, text)),
                         "D 1\nC 1 F 9999 A9,B10,B11,F1 a\nC 2 B 3 A9,A10,C1 b\nC 3 B 3 E5 c\nC 4 B 3 - d\n")

    def test_texts_as_they_are(self):
        text = "D 1\nE 1 \nE 2   a  \nE 9999 ~\nC 1 A 1 - \nC 2 A 1 B1  b \n"
        self.assertEqual(printed(0, add(0, text)), text)

    def test_added_again_it_tells_nothing_new(self):
        text = "D 30\nM C 1\nC 2 A 1 F3,A9,A10 y \nE 2  x\nD 0\nM B 7\nC 1 A 1 - z\nE 1 \nD 30\nE 2 x\nD 9\nM F 0"
        for party in [3, 4]:
            form = printed(party, add(party, text))
            self.assertEqual(ask(add(party, text), add(party, form)), [[8], [0]])
            self.assertEqual(ask(add(party, form), add(party, text)), [[8], [0]])
            self.assertEqual(printed(party, add(party, form)), form)

    def test_party_out_of_range(self):
        for party in [-1, 6, FAR, -FAR]:
            self.assertEqual(last(add(0, "D 1\nE 1 a\n"), print_of(party)), [-1])
        self.assertEqual(last(print_of(5)), [0])


if __name__ == "__main__":
    unittest.main()
