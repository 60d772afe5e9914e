import unittest

from tests.asking import add, behind, find, last
from tests.heaps import TWO_MEETINGS

FAR = 10 ** 18

ONE = [add(0, "D 1\nE 1 the cat sat\n")]


class FindTest(unittest.TestCase):
    def test_nothing_told(self):
        self.assertEqual(behind([], find(""), find("a")), [[0], [0]])

    def test_signs_in_a_text(self):
        for signs in ["the cat sat", "t", "the", "cat", "sat", "at", "e c", " ", "t s", "he cat sa"]:
            self.assertEqual(last(*ONE, find(signs)), [1, 0, 1], signs)

    def test_signs_not_in_a_text(self):
        for signs in ["x", "dog", "The", "thecat", "cat  sat", "tac", "ct", "the cat sat ", " the cat sat", "aat", "tt"]:
            self.assertEqual(last(*ONE, find(signs)), [0], signs)

    def test_beginning_that_comes_twice(self):
        self.assertEqual(last(add(0, "D 1\nE 1 aaab\n"), find("aab")), [1, 0, 1])
        self.assertEqual(last(add(0, "D 1\nE 1 abababc\n"), find("ababc")), [1, 0, 1])

    def test_signs_across_the_end_of_a_text(self):
        told = [add(0, "D 1\nE 1 ab\nE 1 cd\nE 2 cd\n")]
        self.assertEqual(behind(told, find("bc"), find("bcd"), find("abcd"), find("da")), [[0], [0], [0], [0]])
        self.assertEqual(last(*told, find("b\nc")), [0])

    def test_signs_longer_than_the_text(self):
        told = [add(0, "D 1\nE 1 ab\nE 2 \n")]
        self.assertEqual(behind(told, find("abc"), find("aba"), find("ab" * 20), find("ab"), find(" ")),
                         [[0], [0], [0], [1, 0, 1], [0]])

    def test_numbers_and_letters_of_the_line_are_not_of_the_text(self):
        told = [add(0, "D 1\nE 7 x\n"), add(1, "D 1\nE 8 y\nC 6 B 8 C5 z\n")]
        for signs in ["E", "7", "C", "6", "B", "8", "C5", "D", "1", "y"]:
            self.assertEqual(last(*told, find(signs)), [0], signs)

    def test_no_signs(self):
        told = [add(0, "D 1\nE 2 \nE 1 a\nM B 1\n"), add(1, "D 1\nE 2 b\nC 1 B 2 - \nC 2 F 1 - c\n")]
        self.assertEqual(last(*told, find("")), [3, 0, 1, 0, 2, 1, 2])

    def test_no_signs_where_nothing_stands(self):
        told = [add(0, "D 1\nE 1 a\nE 2 b\nC 1 A 1 B1 b\n"), add(1, "D 1\nC 1 A 1 A1 c\n")]
        self.assertEqual(behind(told, find(""), find("b"), find("c"), find("a")), [[1, 0, 2], [1, 0, 2], [0], [0]])

    def test_text_of_a_correction_that_stands(self):
        told = [add(0, "D 1\nE 1 old\n"), add(1, "D 1\nC 1 A 1 - new\n")]
        self.assertEqual(behind(told, find("old"), find("new")), [[0], [1, 0, 1]])

    def test_text_of_a_correction_that_does_not_stand(self):
        told = [add(0, "D 1\nE 1 old\n"), add(1, "D 1\nC 1 A 1 - new\n"), add(2, "D 1\nC 1 A 1 B1 newest\n")]
        self.assertEqual(behind(told, find("new"), find("newest"), find("old")), [[1, 0, 1], [1, 0, 1], [0]])
        told = [add(0, "D 1\nE 1 old\n"), add(1, "D 1\nC 1 A 1 - new\n"), add(2, "D 1\nC 1 A 1 B1 last\n")]
        self.assertEqual(behind(told, find("new"), find("last")), [[0], [1, 0, 1]])

    def test_any_one_that_stands_is_enough(self):
        told = [add(0, "D 1\nE 1 one\nE 1 two\nE 2 one\n"), add(1, "D 1\nC 1 A 2 - six\nC 2 A 2 - ten\n")]
        self.assertEqual(behind(told, find("one"), find("two"), find("six"), find("ten"), find("n")),
                         [[1, 0, 1], [1, 0, 1], [1, 0, 2], [1, 0, 2], [2, 0, 1, 0, 2]])

    def test_entry_that_only_corrections_speak_of(self):
        self.assertEqual(behind([add(1, "D 1\nC 1 A 1 - new\n")], find("new"), find("")), [[0], [0]])

    def test_by_party_then_by_number(self):
        told = [add(5, "D 1\nE 1 a\n"), add(0, "D 9\nE 10 a\nE 2 a\nE 3 b\nD 1\nE 9 xa\n"), add(1, "D 1\nE 9999 a\n")]
        self.assertEqual(last(*told, find("a")), [5, 0, 2, 0, 9, 0, 10, 1, 9999, 5, 1])

    def test_told_twice_comes_once(self):
        self.assertEqual(last(add(0, "D 1\nE 1 a\nE 1 ab\nD 2\nE 1 a\n"), find("a")), [1, 0, 1])

    def test_whole_text_of_forty_signs(self):
        text = "0123456789" * 4
        self.assertEqual(last(add(0, f"D 1\nE 1 {text}\n"), find(text)), [1, 0, 1])

    def test_bytes_that_are_no_plain_signs(self):
        for number in [0, 9, 10, 13, 31, 127, 128, 255]:
            self.assertEqual(last(*ONE, find([number])), [0])
            self.assertEqual(last(*ONE, find([116, number])), [0])

    def test_out_of_range(self):
        self.assertEqual(behind(ONE, find("x" * 40), find("x" * 41), find("x" * 50)), [[0], [-1], [-1]])
        for number in [-1, 256, FAR, -FAR]:
            self.assertEqual(last(*ONE, find([number])), [-1])
            self.assertEqual(last(*ONE, find([116, number, 104])), [-1])
        self.assertEqual(last(find([256])), [-1])

    def test_asked_even_if_all_cannot_be_explained(self):
        self.assertEqual(last(*TWO_MEETINGS, add(2, "D 1\nE 1 a\n"), find("a")), [1, 2, 1])


if __name__ == "__main__":
    unittest.main()
