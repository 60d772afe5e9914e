import unittest

from tests.asking import COUNTS, add, all_facts, ask, counted, last

FAR = 10 ** 18


class AddCase(unittest.TestCase):
    def assert_told(self, line, fact, party=0):
        """The line, behind a D line of day 5, tells just this fact."""
        self.assertEqual(all_facts(add(party, f"D 5\n{line}\n")), [fact])

    def assert_wrong(self, line, party=0):
        """The line is wrong with a D line and a right line before it, and leaves the heap as it was."""
        text = f"D 5\nE 7 fine\n{line}\n"
        self.assertEqual(ask(add(party, text), COUNTS), [[-103], [0, 0, 0, 0]], line)


class LinesTest(AddCase):
    def test_empty_text(self):
        self.assertEqual(ask(add(0, ""), COUNTS), [[0], [0, 0, 0, 0]])

    def test_lines_that_are_nothing(self):
        self.assertEqual(last(add(0, "\n")), [0])
        self.assertEqual(last(add(0, "\n\n\n")), [0])
        self.assertEqual(last(add(0, [10] * 1500)), [0])
        self.assertEqual(last(add(0, "\n\nD 1\n\nE 1 a\n\n\nE 2 b\n\n")), [2])

    def test_no_last_line_end(self):
        self.assertEqual(all_facts(add(0, "D 5\nE 1 a")), [[0, 5, 0, 1] + counted("a")])
        self.assertEqual(last(add(0, "D 5")), [0])
        self.assertEqual(last(add(0, "D 5\nE 1")), [-102])
        self.assertEqual(last(add(0, "D")), [-101])

    def test_rest_behind_the_last_line_end_is_wrong(self):
        self.assertEqual(last(add(0, "D 5\n ")), [-102])
        self.assertEqual(last(add(0, "D 5\nE 1 a\nx")), [-103])

    def test_number_of_the_first_wrong_line(self):
        self.assertEqual(last(add(0, "x")), [-101])
        self.assertEqual(last(add(0, "\nx")), [-102])
        self.assertEqual(last(add(0, "\n\nD 1\n\nE 1 a\nE x\nE y\n")), [-106])
        self.assertEqual(last(add(0, "D 1\n" + "\n" * 1490 + "x")), [-1592])
        self.assertEqual(last(add(0, "D 1\nE 0 a\nx\n")), [-102])

    def test_unknown_lines(self):
        for line in [" ", "X 1", "e 1 a", "d 1", "0", "E", "C", "M", "D", "-", "F 1 a", "B 1", " E 1 a", " D 1", "\t",
                     "DE 1 a", "ED 1", "DD 1", "EE 1 a", "MM B 1", "CC 1 A 1 - a"]:
            self.assert_wrong(line)

    def test_signs_that_are_no_line_ends(self):
        self.assertEqual(last(add(0, "D 1\r\nE 1 a\n")), [-101])
        self.assertEqual(last(add(0, "D 1\nE 1 a\r\n")), [-102])
        self.assertEqual(last(add(0, "D 1\nE 1 a\x0b\n")), [-102])

    def test_many_facts_of_one_text(self):
        text = "D 3\nE 1 a\nC 2 B 4 - b\nM F 9\nD 1\nE 1 a\nD 3\nE 2 c\n"
        self.assertEqual(all_facts(add(2, text)), [
            [2, 1, 0, 1] + counted("a"),
            [2, 3, 0, 1] + counted("a"),
            [2, 3, 0, 2] + counted("c"),
            [2, 3, 1, 2, 1, 4, 0] + counted("b"),
            [2, 3, 2, 5, 9],
        ])


class DayLineTest(AddCase):
    def test_right_ones(self):
        for number in [0, 1, 9, 10, 99, 100, 9999]:
            self.assertEqual(all_facts(add(0, f"D {number}\nE 1 a\n")), [[0, number, 0, 1] + counted("a")])

    def test_days_in_any_order_and_again(self):
        self.assertEqual(last(add(0, "D 5\nD 1\nE 1 a\nD 9\nD 9\nE 1 a\nD 1\nE 1 a\nE 2 a\n")), [3])

    def test_wrong_ones(self):
        for line in ["D", "D ", "D1", "D  1", "D 1 ", "D 1 1", "D 01", "D 00", "D 10000", "D 99999", "D -1", "D +1",
                     "D x", "D 1x", "D x1", "D 1,", "D A", "D\t1", "D 1.0", "D 1_0", "D /", "D :", "D 1:", "D 1/"]:
            self.assert_wrong(line)

    def test_digits_of_other_scripts_are_none(self):
        self.assert_wrong("D \xb2")
        self.assert_wrong("D \xb9")

    def test_facts_need_a_day_line_before_them(self):
        for line in ["E 1 a", "C 1 A 1 - a", "M B 1"]:
            self.assertEqual(last(add(0, line)), [-101])
            self.assertEqual(last(add(0, f"\n{line}\nD 1\n")), [-102])
            self.assertEqual(last(add(0, f"D 1\n{line}\n")), [1])

    def test_day_line_of_another_text_does_not_count(self):
        self.assertEqual(ask(add(0, "D 1\n"), add(0, "E 1 a\n"), COUNTS), [[0], [-101], [0, 0, 0, 0]])


class EntryLineTest(AddCase):
    def test_right_ones(self):
        self.assert_told("E 1 a", [0, 5, 0, 1] + counted("a"))
        self.assert_told("E 9999 word two", [3, 5, 0, 9999] + counted("word two"), party=3)
        self.assert_told("E 10 E 1 a", [0, 5, 0, 10] + counted("E 1 a"))

    def test_text_is_all_that_is_left(self):
        self.assert_told("E 1  a", [0, 5, 0, 1] + counted(" a"))
        self.assert_told("E 1 a ", [0, 5, 0, 1] + counted("a "))
        self.assert_told("E 1  ", [0, 5, 0, 1] + counted(" "))
        self.assert_told("E 1   a  b  ", [0, 5, 0, 1] + counted("  a  b  "))

    def test_empty_text(self):
        self.assert_told("E 1 ", [0, 5, 0, 1, 0])
        self.assert_wrong("E 1")

    def test_length_of_the_text(self):
        self.assert_told("E 1 " + "x" * 40, [0, 5, 0, 1] + counted("x" * 40))
        self.assert_told("E 1 " + " " * 40, [0, 5, 0, 1] + counted(" " * 40))
        self.assert_wrong("E 1 " + "x" * 41)
        self.assert_wrong("E 1 " + " " * 41)

    def test_signs_of_the_text(self):
        plain = "".join([chr(sign) for sign in range(32, 127)])
        for start in range(0, len(plain), 40):
            self.assert_told("E 1 " + plain[start:start + 40], [0, 5, 0, 1] + counted(plain[start:start + 40]))
        for sign in [0, 1, 9, 11, 13, 31, 127, 128, 160, 200, 255]:
            self.assert_wrong("E 1 " + chr(sign))
            self.assert_wrong("E 1 a" + chr(sign) + "b")

    def test_wrong_numbers(self):
        for number in ["0", "00", "01", "001", "10000", "00001", "-1", "+1", "", "x", "1x", "A", "A1", ",", "1,"]:
            self.assert_wrong(f"E {number} a")

    def test_wrong_blanks(self):
        for line in ["E", "E ", "E  ", "E  1 a", "E1 a", "E 1a", "E1a", "E\t1 a", "E 1\ta"]:
            self.assert_wrong(line)


class CorrectionLineTest(AddCase):
    def test_right_ones(self):
        self.assert_told("C 1 A 2 - a", [0, 5, 1, 1, 0, 2, 0] + counted("a"))
        self.assert_told("C 9999 F 9999 - b c", [0, 5, 1, 9999, 5, 9999, 0] + counted("b c"))
        self.assert_told("C 3 C 2 B1 d", [2, 5, 1, 3, 2, 2, 1, 1, 1] + counted("d"), party=2)

    def test_known_in_any_order(self):
        wanted = [0, 5, 1, 1, 1, 2, 4, 0, 9, 1, 10, 1, 11, 5, 1] + counted("a")
        self.assert_told("C 1 B 2 F1,B11,A9,B10 a", wanted)
        self.assert_told("C 1 B 2 A9,B10,B11,F1 a", wanted)
        self.assert_told("C 1 B 2 B11,B10,F1,A9 a", wanted)

    def test_known_numbers_rise_as_numbers(self):
        self.assert_told("C 1 B 2 A10,A9999,A9 a", [0, 5, 1, 1, 1, 2, 3, 0, 9, 0, 10, 0, 9999] + counted("a"))

    def test_how_many_known(self):
        self.assert_told("C 1 A 1 A2 a", [0, 5, 1, 1, 0, 1, 1, 0, 2] + counted("a"))
        self.assert_told("C 1 A 1 A2,A3 a", [0, 5, 1, 1, 0, 1, 2, 0, 2, 0, 3] + counted("a"))
        self.assert_told("C 1 A 1 A2,A3,B1 a", [0, 5, 1, 1, 0, 1, 3, 0, 2, 0, 3, 1, 1] + counted("a"))
        self.assert_told("C 1 A 1 A2,A3,B1,B2 a", [0, 5, 1, 1, 0, 1, 4, 0, 2, 0, 3, 1, 1, 1, 2] + counted("a"))
        self.assert_wrong("C 1 A 1 A2,A3,B1,B2,C1 a")
        self.assert_wrong("C 1 A 1 A2,A3,B1,B2,C1,C2 a")
        self.assert_wrong("C 1 A 1 A2,A3,B1,B2, a")

    def test_known_twice(self):
        for known in ["B1,B1", "B1,C1,B1", "A2,B3,B3", "F9,E9,D9,F9"]:
            self.assert_wrong(f"C 1 A 1 {known} a")

    def test_itself_known(self):
        self.assert_wrong("C 1 A 1 A1 a")
        self.assert_wrong("C 12 A 1 B1,A12 a")
        self.assert_wrong("C 7 A 1 D7 a", party=3)
        self.assert_told("C 7 A 1 A7 a", [3, 5, 1, 7, 0, 1, 1, 0, 7] + counted("a"), party=3)
        self.assert_told("C 7 A 1 D8 a", [3, 5, 1, 7, 0, 1, 1, 3, 8] + counted("a"), party=3)

    def test_wrong_known(self):
        for known in ["", "--", "-,B1", "B1,-", ",", ",B1", "B1,", "B1,,B2", "B1;B2", "B", "1", "1B", "b1", "G1", "@1",
                      "B0", "B01", "B10000", "B-1", "B1x", "BB1", "B1B2", "+", "B1.B2", "B1,b2", "B1,B0"]:
            self.assert_wrong(f"C 1 A 1 {known} a")

    def test_blank_within_known_begins_the_text(self):
        self.assert_wrong("C 1 A 1 B1, B2 a")
        self.assert_told("C 1 A 1 B1 ,B2 a", [0, 5, 1, 1, 0, 1, 1, 1, 1] + counted(",B2 a"))

    def test_wrong_numbers(self):
        for number in ["0", "00", "01", "10000", "-1", "+1", "", "x", "1x", "A"]:
            self.assert_wrong(f"C {number} A 1 - a")
            self.assert_wrong(f"C 1 A {number} - a")

    def test_letter(self):
        for place, letter in enumerate("ABCDEF"):
            self.assert_told(f"C 1 {letter} 1 - a", [1, 5, 1, 1, place, 1, 0] + counted("a"), party=1)
        for letter in ["@", "G", "a", "f", "Z", "0", "1", "-", "", "AB", "A1"]:
            self.assert_wrong(f"C 1 {letter} 1 - a")

    def test_text(self):
        self.assert_told("C 1 A 1 - ", [0, 5, 1, 1, 0, 1, 0, 0])
        self.assert_told("C 1 A 1 -   a ", [0, 5, 1, 1, 0, 1, 0] + counted("  a "))
        self.assert_told("C 1 A 1 - " + "~" * 40, [0, 5, 1, 1, 0, 1, 0] + counted("~" * 40))
        self.assert_wrong("C 1 A 1 - " + "~" * 41)
        for sign in [0, 9, 13, 31, 127, 255]:
            self.assert_wrong("C 1 A 1 - a" + chr(sign))

    def test_wrong_blanks(self):
        for line in ["C", "C ", "C 1", "C 1 ", "C 1 A", "C 1 A ", "C 1 A 1", "C 1 A 1 ", "C 1 A 1 -", "C 1 A 1 B1",
                     "C1 A 1 - a", "C  1 A 1 - a", "C 1  A 1 - a", "C 1 A  1 - a", "C 1 A 1  - a", "C 1 A1 - a",
                     "C 1A 1 - a", "C 1 A 1- a", "C 1 A 1 -a", "C\t1 A 1 - a"]:
            self.assert_wrong(line)


class MeetingLineTest(AddCase):
    def test_right_ones(self):
        self.assert_told("M B 0", [0, 5, 2, 1, 0])
        self.assert_told("M F 9999", [0, 5, 2, 5, 9999])
        self.assert_told("M A 17", [5, 5, 2, 0, 17], party=5)

    def test_own_letter(self):
        for party, letter in enumerate("ABCDEF"):
            self.assert_wrong(f"M {letter} 1", party=party)
            other = (party + 1) % 6
            self.assert_told(f"M {'ABCDEF'[other]} 1", [party, 5, 2, other, 1], party=party)

    def test_wrong_letters(self):
        for letter in ["@", "G", "b", "1", "-", "", "BC", "Z"]:
            self.assert_wrong(f"M {letter} 1")

    def test_wrong_numbers(self):
        for number in ["00", "01", "10000", "-1", "+1", "", "x", "1x", "A"]:
            self.assert_wrong(f"M B {number}")

    def test_wrong_blanks(self):
        for line in ["M", "M ", "M B", "M B ", "MB 1", "M  B 1", "M B  1", "M B 1 ", "M B 1 a", "M B1", "M\tB 1"]:
            self.assert_wrong(line)


class SameFactsTest(AddCase):
    def test_told_twice_in_one_text(self):
        text = "D 1\nE 1 a\nE 1 a\nC 1 A 1 - b\nM B 1\nD 2\nD 1\nM B 1\nC 1 A 1 - b\nE 1 a\n"
        self.assertEqual(ask(add(0, text), COUNTS), [[3], [3, 1, 1, 1]])

    def test_told_twice_in_two_texts(self):
        first = "D 1\nE 1 a\nC 1 A 1 - b\nM B 1\n"
        second = "D 1\nM B 1\nE 2 a\nC 1 A 1 - b\nE 1 a\n"
        self.assertEqual(ask(add(0, first), add(0, first), add(0, second), COUNTS), [[3], [0], [1], [4, 2, 1, 1]])

    def test_known_is_compared_as_a_set(self):
        text = "D 1\nC 1 A 1 B1,C2,A3 b\nC 1 A 1 C2,A3,B1 b\n"
        other = "D 1\nC 1 A 1 A3,B1,C2 b\n"
        self.assertEqual(ask(add(0, text), add(0, other), COUNTS), [[1], [0], [1, 0, 1, 0]])

    def test_of_another_party(self):
        text = "D 1\nE 1 a\nC 1 A 1 - b\nM C 1\n"
        self.assertEqual(ask(add(0, text), add(1, text), COUNTS), [[3], [3], [6, 2, 2, 2]])

    def test_of_another_day(self):
        self.assertEqual(last(add(0, "D 1\nE 1 a\nD 2\nE 1 a\n")), [2])
        self.assertEqual(last(add(0, "D 1\nC 1 A 1 - a\nD 2\nC 1 A 1 - a\n")), [2])
        self.assertEqual(last(add(0, "D 1\nM B 1\nD 2\nM B 1\n")), [2])

    def test_unlike_in_one_thing(self):
        self.assertEqual(last(add(0, "D 1\nE 1 a\nE 2 a\nE 1 b\nE 1 a \n")), [4])
        self.assertEqual(last(add(0, "D 1\nM B 1\nM C 1\nM B 2\n")), [3])
        text = "D 1\nC 1 A 1 - a\nC 2 A 1 - a\nC 1 B 1 - a\nC 1 A 2 - a\nC 1 A 1 B1 a\nC 1 A 1 B2 a\nC 1 A 1 - b\n"
        self.assertEqual(last(add(0, text)), [7])


class RefusalsTest(AddCase):
    def test_party_out_of_range(self):
        for party in [-1, 6, 7, 65, FAR, -FAR]:
            self.assertEqual(ask(add(party, "D 1\nE 1 a\n"), COUNTS), [[-1], [0, 0, 0, 0]])
        for party in range(6):
            self.assertEqual(last(add(party, "D 1\nE 1 a\n")), [1])

    def test_text_out_of_range(self):
        self.assertEqual(last(add(0, [10] * 1500)), [0])
        self.assertEqual(last(add(0, [10] * 1501)), [-1])
        self.assertEqual(last(add(0, [10] * 1510)), [-1])
        for number in [-1, 256, 1000, FAR, -FAR]:
            self.assertEqual(last(add(0, [number])), [-1])
            self.assertEqual(last(add(0, [10, 10, number, 10])), [-1])
        for number in [0, 255]:
            self.assertEqual(last(add(0, [number])), [-101])

    def test_out_of_range_comes_first(self):
        self.assertEqual(last(add(6, "x")), [-1])
        self.assertEqual(last(add(0, [120, 10, 256])), [-1])
        self.assertEqual(last(add(0, "x\n" + "\n" * 1499)), [-1])
        self.assertEqual(last(add(6, entries(1, 61))), [-1])

    def test_wrong_line_comes_before_too_many(self):
        self.assertEqual(last(add(0, entries(1, 61) + "x")), [-163])
        self.assertEqual(last(add(0, entries(1, 60)), add(0, "D 1\nE 61 a\nx")), [-103])

    def test_sixty_facts(self):
        self.assertEqual(ask(add(0, entries(1, 60)), COUNTS), [[60], [60, 60, 0, 0]])
        self.assertEqual(ask(add(0, entries(1, 61)), COUNTS), [[-5], [0, 0, 0, 0]])
        self.assertEqual(ask(add(0, entries(1, 60)), add(1, entries(1, 1)), COUNTS), [[60], [-5], [60, 60, 0, 0]])
        self.assertEqual(ask(add(0, entries(1, 60)), add(0, "D 1\nM B 1\n")), [[60], [-5]])

    def test_same_facts_do_not_fill_the_heap(self):
        self.assertEqual(ask(add(0, entries(1, 60)), add(0, entries(1, 60)), add(0, entries(60, 60))),
                         [[60], [0], [0]])
        self.assertEqual(ask(add(0, entries(1, 59)), add(0, entries(1, 60)), add(0, entries(1, 61)), COUNTS),
                         [[59], [1], [-5], [60, 60, 0, 0]])

    def test_twelve_corrections(self):
        self.assertEqual(ask(add(0, corrections(1, 12)), COUNTS), [[12], [12, 0, 12, 0]])
        self.assertEqual(ask(add(0, corrections(1, 13)), COUNTS), [[-5], [0, 0, 0, 0]])
        self.assertEqual(ask(add(0, corrections(1, 12)), add(1, corrections(1, 1)), COUNTS),
                         [[12], [-5], [12, 0, 12, 0]])
        self.assertEqual(ask(add(0, corrections(1, 12)), add(0, corrections(5, 12)), add(0, entries(1, 48)), COUNTS),
                         [[12], [0], [48], [60, 48, 12, 0]])

    def test_refusal_leaves_the_heap_as_it_was(self):
        before = [add(0, corrections(1, 11)), add(1, "D 3\nE 1 a\nM A 2\n")]
        wanted = all_facts(*before)
        for refused in [add(0, "D 1\nE 1 new\nx"), add(0, "D 1\nE 1 new\n" + corrections(12, 13)),
                        add(2, entries(1, 60)), add(6, entries(1, 1)), add(0, numbers_with_one_over("D 1\nE 1 new\n"))]:
            self.assertLess(last(*before, refused)[0], 0)
            self.assertEqual(all_facts(*before, refused), wanted)
            self.assertEqual(last(*before, refused, add(0, "D 1\nE 1 new\n")), [1])


def entries(first, final):
    """A day, and entries with the numbers from first to final, a line each."""
    return "D 1\n" + "".join([f"E {number} a\n" for number in range(first, final + 1)])


def corrections(first, final):
    return "D 1\n" + "".join([f"C {number} A 1 - a\n" for number in range(first, final + 1)])


def numbers_with_one_over(text):
    return [ord(sign) for sign in text] + [256]


if __name__ == "__main__":
    unittest.main()
