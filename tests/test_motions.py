"""Motions in the line, by lines and to marks."""

import unittest

from tests.helper import ENTER, ESC, WHERE, Case, ask, ed_keys, ed_text


class InTheLine(Case):
    def test_h(self):
        self.cases(
            ("abc|d", "h", "ab|cd"),
            ("abc|d", "2h", "a|bcd"),
            ("abc|d", "3h", "|abcd"),
            ("abc|d", "9999h", "|abcd"),
            ("abc|d", "dh", "ab|d"),
            ("abc|d", "9dh", "|d"),
        )
        self.rings("|ab", "h", "3h", "dh", "X", "yh", "ch" + ESC, "<h")
        self.rings("a\n|", "h", "dh")
        self.rings("a\n|b", "h", "X")

    def test_l(self):
        self.cases(
            ("|abcd", "l", "a|bcd"),
            ("|abcd", "3l", "abc|d"),
            ("|abcd", "9999l", "abc|d"),
            ("|abcd", "dl", "|bcd"),
            ("ab|cd", "3dl", "a|b"),
            ("abc|d", "dl", "ab|c"),
            ("abc|d", "ylP", "abc|dd"),
            ("abc|d", "clx" + ESC, "abc|x"),
            ("|a", ">l", "\t|a"),
        )
        self.rings("a|b", "l", "5l")
        self.rings("a\n|\nb", "l", "dl", "x", "yl", "s" + ESC, ">l")

    def test_0(self):
        self.cases(
            ("  a|b", "0", "|  ab"),
            ("|ab", "0", "|ab"),
            ("a\n|", "0", "a\n|"),
            ("a\n  a|b", "d0", "a\n|b"),
        )

    def test_caret(self):
        self.cases(
            (" \t a|b", "^", " \t |ab"),
            ("|  ab", "^", "  |ab"),
            ("|   ", "^", "  | "),
            ("a\n|", "^", "a\n|"),
            ("|ab", "^", "|ab"),
            ("  abc|d", "d^", "  |d"),
            ("|  ab", "d^", "|ab"),
            ("  |ab", "5^", "  |ab"),
        )

    def test_dollar(self):
        self.cases(
            ("|abc", "$", "ab|c"),
            ("ab|c", "$", "ab|c"),
            ("|abc\nde\nf", "2$", "abc\nd|e\nf"),
            ("|abc\nde\nf", "3$", "abc\nde\n|f"),
            ("|abc\n\nf", "2$", "abc\n|\nf"),
            ("a\n|\nb", "$", "a\n|\nb"),
            ("a|bc", "d$", "|a"),
            ("a|bc\nde\nf", "2d$", "|a\nf"),
            ("a|bc\n\nf", "2d$", "|a\nf"),
            ("a\n|\nb", "d$", "a\n|\nb"),
        )
        self.rings("ab\n|c", "2$", "d2$", "2D", "2C" + ESC)


class ByLines(Case):
    def test_j(self):
        self.cases(
            ("ab|c\nd\nefg", "j", "abc\n|d\nefg"),
            ("ab|c\nd\nefg", "2j", "abc\nd\nef|g"),
            ("ab|c\nd\nefg", "jj", "abc\nd\n|efg"),
            ("ab|c\n\nd", "j", "abc\n|\nd"),
            ("1\n|2\n3\n4", "dj", "1\n|4"),
            ("|1\n2\n3\n4", "d2j", "|4"),
        )
        self.rings("1\n|2", "j", "2j", "dj", "yj", ">j")
        self.rings("|1\n2\n3", "3j", "d3j", "9999j")

    def test_k(self):
        self.cases(
            ("abc\nd\nef|g", "k", "abc\n|d\nefg"),
            ("abc\nd\nef|g", "2k", "ab|c\nd\nefg"),
            ("1\n2\n|3\n4", "dk", "1\n|4"),
            ("1\n2\n3\n|4", "3dk", "|"),
        )
        self.rings("|1\n2", "k", "dk")
        self.rings("1\n|2\n3", "2k", "y2k", "9999k")

    def test_big_g(self):
        self.cases(
            ("|1\n2\n  3", "G", "1\n2\n  |3"),
            ("|1\n  2\n3", "2G", "1\n  |2\n3"),
            ("1\n2\n|3", "1G", "|1\n2\n3"),
            ("|1\n2\n   ", "G", "1\n2\n  | "),
            ("|1\n2\n", "3G", "1\n2\n|"),
            ("|1", "G", "|1"),
            ("1\n|2\n3\n4", "dG", "|1"),
            ("1\n2\n|3\n4", "d1G", "|4"),
            ("1\n|2\n3\n4", "d3G", "1\n|4"),
            ("1\n|2\n3\n4", "3dG", "1\n|4"),
        )
        self.rings("1\n|2\n3", "4G", "d4G", "9999G")


class Marks(Case):
    def test_by_line(self):
        self.cases(
            ("  ab|c\nd", "maj'a", "  |abc\nd"),
            ("1\n|2\n3\n4", "majjd'a", "|1"),
            ("1\n2\n|3\n4", "makd'a", "1\n|4"),
            ("  ab|c\nd", "maj5'a", "  |abc\nd"),
        )

    def test_by_place(self):
        self.cases(
            ("ab|cd\nefgh", "maj0`a", "ab|cd\nefgh"),
            ("ab|cdef", "ma$d`a", "ab|f"),
            ("abcd|ef", "mz0y`zP", "abc|dabcdef"),
            ("ab|cd", "mad`a", "ab|cd"),
        )

    def test_set_again(self):
        self.case("|abcd", "mallma$`a", "ab|cd")

    def test_each_letter_has_its_own(self):
        self.case("|abcd", "malmz$`a", "|abcd")
        self.case("|abcd", "malmz$`z", "a|bcd")

    def test_not_set(self):
        self.rings("a|b", "'a", "`a", "d'a", "y`a", ">'z")

    def test_the_line_is_gone(self):
        for keys in ("'a", "`a", "d'a", "y`a"):
            self.case("1\n2\n|3", "ma1G2dd" + keys, "|3", 1)

    def test_a_mark_is_a_line_and_a_column_whatever_happens_to_the_text(self):
        self.case("1\n|2\n3\n4", "ma1Gdd'a", "2\n|3\n4")
        self.case("ab|cd", "ma0x$`a", "bc|d")
        self.case("1\n2\n|3", "ma1G2ddoa" + ESC + "oc" + ESC + "1G'a", "3\na\n|c")

    def test_the_line_has_become_shorter(self):
        self.cases(
            ("abc|d", "maxxx0`a", "|a"),
            ("abcde|f", "ma03x`a", "de|f"),
            ("abc|d", "maS" + ESC + "`a", "|"),
            ("abc|d", "maS" + ESC + "'a", "|"),
        )

    def test_u_leaves_marks(self):
        self.case("|abcd", "xllmau0`a", "ab|cd")


class AMotionAlone(Case):
    def test_a_letter_in_front_is_not_looked_at(self):
        self.case("|ab cd", "\"aw", "ab |cd")
        told = ask(ed_text("ab cd"), ed_keys("\"aw\"ap"), WHERE)
        self.assertEqual(told[1:], [[1], [0, 0, 3, 1, 0]])

    def test_changes_no_text_for_u_and_dot(self):
        self.case("|ab cd", "wb/c" + ENTER + "ma`au", "ab |cd", 1)
        self.case("|ab cd", "wyl.", "ab |cd", 1)


if __name__ == "__main__":
    unittest.main()
