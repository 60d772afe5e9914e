import unittest

from tests.asking import add, all_facts, ask, counted, fact, last

FAR = 10 ** 18


class FactTest(unittest.TestCase):
    def test_entry(self):
        self.assertEqual(last(add(3, "D 17\nE 240 two words\n"), fact(0)), [3, 17, 0, 240] + counted("two words"))
        self.assertEqual(last(add(3, "D 17\nE 240 \n"), fact(0)), [3, 17, 0, 240, 0])

    def test_correction(self):
        self.assertEqual(last(add(3, "D 17\nC 24 E 8 F2,A30,A4 no\n"), fact(0)),
                         [3, 17, 1, 24, 4, 8, 3, 0, 4, 0, 30, 5, 2, 2, 110, 111])
        self.assertEqual(last(add(3, "D 17\nC 24 E 8 - \n"), fact(0)), [3, 17, 1, 24, 4, 8, 0, 0])

    def test_meeting(self):
        self.assertEqual(last(add(3, "D 17\nM F 0\n"), fact(0)), [3, 17, 2, 5, 0])

    def test_out_of_range(self):
        one = add(0, "D 1\nE 1 a\n")
        for place in [-1, 1001, FAR, -FAR]:
            self.assertEqual(last(one, fact(place)), [-1])

    def test_none_there(self):
        self.assertEqual(ask(fact(0), fact(1000)), [[-4], [-4]])
        self.assertEqual(ask(add(0, "D 1\nE 1 a\nE 2 b\n"), fact(1), fact(2), fact(1000))[1:],
                         [[0, 1, 0, 2] + counted("b"), [-4], [-4]])

    def test_places_move_when_facts_come_before(self):
        self.assertEqual(ask(add(1, "D 1\nE 1 b\n"), fact(0), add(0, "D 2\nE 9 a\n"), fact(0), fact(1)),
                         [[1], [1, 1, 0, 1] + counted("b"), [1], [0, 2, 0, 9] + counted("a"),
                          [1, 1, 0, 1] + counted("b")])


class HeapOrderTest(unittest.TestCase):
    def assert_order(self, *lines):
        """Facts of party 0 on day 1 are in the order of these lines, whatever order they're told in."""
        wanted = [all_facts(add(0, f"D 1\n{line}\n"))[0] for line in lines]
        self.assertEqual(all_facts(add(0, "D 1\n" + "\n".join(lines))), wanted)
        self.assertEqual(all_facts(add(0, "D 1\n" + "\n".join(reversed(lines)))), wanted)
        one_by_one = [add(0, f"D 1\n{line}\n") for line in lines[1::2] + lines[::2]]
        self.assertEqual(all_facts(*one_by_one), wanted)

    def test_party_before_day(self):
        self.assertEqual(all_facts(add(1, "D 1\nE 1 a\n"), add(2, "D 0\nE 1 a\n"), add(0, "D 9\nM B 1\n")),
                         [[0, 9, 2, 1, 1], [1, 1, 0, 1, 1, 97], [2, 0, 0, 1, 1, 97]])

    def test_day_before_kind(self):
        self.assertEqual(all_facts(add(0, "D 10\nE 1 a\nD 9\nM B 1\nD 11\nC 1 A 1 - a\nD 100\nE 1 a\n")),
                         [[0, 9, 2, 1, 1], [0, 10, 0, 1, 1, 97], [0, 11, 1, 1, 0, 1, 0, 1, 97], [0, 100, 0, 1, 1, 97]])

    def test_kind_before_number(self):
        self.assert_order("E 9 z", "C 5 A 1 - a", "M B 1")
        self.assert_order("E 9999 ~", "C 1 A 1 - ", "C 9999 F 9999 F9999 ~", "M B 0")

    def test_entries_by_number_then_text(self):
        self.assert_order("E 1 z", "E 2 b", "E 9 a", "E 10 a", "E 10 b", "E 100 ")

    def test_texts(self):
        self.assert_order("E 1 ", "E 1  ", "E 1  b", "E 1 A", "E 1 a", "E 1 a ", "E 1 a b", "E 1 aa", "E 1 ab",
                          "E 1 abc", "E 1 b", "E 1 ~")

    def test_corrections_by_number_first(self):
        self.assert_order("C 1 F 9 F2 z", "C 2 A 1 - a", "C 9 A 1 - a", "C 10 A 1 - a")

    def test_corrections_by_party_then_entry(self):
        self.assert_order("C 1 A 9 F2 z", "C 1 A 10 B1 a", "C 1 B 1 - z", "C 1 B 2 - a", "C 1 F 1 - a")

    def test_corrections_by_how_many_known(self):
        self.assert_order("C 1 A 1 - z", "C 1 A 1 F9 y", "C 1 A 1 E1,E2 x", "C 1 A 1 D1,D2,D3 w",
                          "C 1 A 1 A2,A3,A4,A5 a")

    def test_corrections_by_known_one_by_one(self):
        self.assert_order("C 1 A 1 A9 z", "C 1 A 1 A10 y", "C 1 A 1 B1 x", "C 1 A 1 B2 a")
        self.assert_order("C 1 A 1 A2,F9 z", "C 1 A 1 A3,B1 y", "C 1 A 1 A3,B2 x", "C 1 A 1 A3,C1 w",
                          "C 1 A 1 B1,B2 a")
        self.assert_order("C 1 A 1 F9,A2 z", "C 1 A 1 B1,A3 y")
        self.assert_order("C 1 A 1 B1,C1,D1,E1 z", "C 1 A 1 B1,C1,D1,E2 y", "C 1 A 1 B1,C1,D2,E1 x")

    def test_corrections_by_text_last(self):
        self.assert_order("C 1 A 1 B1 ", "C 1 A 1 B1 a", "C 1 A 1 B1 ab", "C 1 A 1 B1 b", "C 1 A 1 B2 a")

    def test_meetings_by_party_then_day(self):
        self.assert_order("M B 9", "M B 10", "M C 0", "M C 1", "M F 0")


if __name__ == "__main__":
    unittest.main()
