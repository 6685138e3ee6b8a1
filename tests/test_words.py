"""Motions by words and by lines without bytes."""

import unittest

from tests.helper import ESC, WHERE, Case, ask, ed_keys


class Ahead(Case):
    def test_w(self):
        self.cases(
            ("|ab cd", "w", "ab |cd"),
            ("a|b cd", "w", "ab |cd"),
            ("|ab.cd", "w", "ab|.cd"),
            ("ab|.cd", "w", "ab.|cd"),
            ("|ab.,cd", "2w", "ab.,|cd"),
            ("|a_9Z b", "w", "a_9Z |b"),
            ("|ab \t cd", "w", "ab \t |cd"),
            ("|ab\ncd", "w", "ab\n|cd"),
            ("|ab\n  cd", "w", "ab\n  |cd"),
            ("|ab\n\ncd", "w", "ab\n|\ncd"),
            ("ab\n|\ncd", "w", "ab\n\n|cd"),
            ("ab\n|\n\ncd", "w", "ab\n\n|\ncd"),
            ("|ab\n  \ncd", "w", "ab\n  \n|cd"),
            ("|a b c d", "3w", "a b c |d"),
            ("|a\n\nb", "2w", "a\n\n|b"),
            ("|a\xe4b", "w", "a|\xe4b"),
            ("|\xe4(", "w", "\xe4|("),
        )

    def test_w_where_there_are_fewer(self):
        self.cases(
            ("|abc", "w", "ab|c"),
            ("|ab cd", "2w", "ab c|d"),
            ("|ab cd", "9999w", "ab c|d"),
            ("|ab  ", "w", "ab | "),
            ("|ab\n  ", "w", "ab\n | "),
            ("|ab\n", "5w", "ab\n|"),
        )
        self.rings("ab|c", "w", "W", "3w")
        self.rings("ab\n|", "w", "W")
        self.rings("| ", "w", "W")

    def test_w_with_an_operator(self):
        self.cases(
            ("|ab cd", "dw", "|cd"),
            ("ab |cd", "dw", "ab| "),
            ("ab c|d", "dw", "ab |c"),
            ("|ab cd ef", "d2w", "|ef"),
            ("|ab cd", "d9w", "|"),
            ("ab\n|", "dw", "ab\n|"),
            ("|ab  \n  ", "d2w", "|"),
            ("|ab cd", "cwx" + ESC, "|xcd"),
            ("|ab cd", "ywP", "ab| ab cd"),
        )

    def test_big_w(self):
        self.cases(
            ("|ab.cd ef", "W", "ab.cd |ef"),
            ("|ab.\n\nc", "W", "ab.\n|\nc"),
            ("|a,b (c) d", "2W", "a,b (c) |d"),
            ("|a,b (c) d", "dW", "|(c) d"),
            ("|a,b", "W", "a,|b"),
        )

    def test_e(self):
        self.cases(
            ("|ab cd", "e", "a|b cd"),
            ("a|b cd", "e", "ab c|d"),
            ("|ab.cd", "2e", "ab|.cd"),
            ("|a b", "e", "a |b"),
            ("a|b\n\n  cd", "e", "ab\n\n  c|d"),
            ("a|b\n  \ncd", "e", "ab\n  \nc|d"),
            ("ab\n|\ncd", "e", "ab\n\nc|d"),
            ("|ab cd ef", "3e", "ab cd e|f"),
            ("|ab cd", "de", "| cd"),
            ("a|b cd", "de", "|a"),
            ("|ab\ncd ef", "d2e", "| ef"),
            ("a|b\n  cd", "cex" + ESC, "a|x"),
        )

    def test_e_where_there_are_fewer(self):
        self.cases(
            ("|ab", "3e", "a|b"),
            ("a|b  ", "e", "ab | "),
            ("a|b\n", "e", "ab\n|"),
            ("a|b\n\n", "e", "ab\n\n|"),
            ("a|b", "de", "|a"),
            ("a|b\n", "de", "|a"),
            ("a\n|", "de", "a\n|"),
        )
        self.rings("a|b", "e", "E")
        self.rings("ab\n|", "e", "E")

    def test_big_e(self):
        self.cases(
            ("|ab.cd ef", "E", "ab.c|d ef"),
            ("|a,b (c) d", "2E", "a,b (c|) d"),
            ("|a,b (c) d", "dE", "| (c) d"),
        )


class Signs(unittest.TestCase):
    def test_every_byte(self):
        """Behind an a or a dot a byte begins a word if it has another sign and is no blank."""
        letters = set(range(48, 58)) | set(range(65, 91)) | set(range(97, 123)) | {95}
        for byte in range(256):
            if byte == 10:
                continue
            blank = byte in (9, 32)
            for before, keys, begins in ((97, "w", byte not in letters), (46, "w", byte in letters),
                                         (97, "W", False), (46, "W", False)):
                with self.subTest(byte=byte, before=before, keys=keys):
                    told = ask([1, 6, before, byte, 32, 32, 97, 98], ed_keys(keys), WHERE)
                    self.assertEqual(told[2], [0, 0, 1 if begins and not blank else 4, 1, 0])


class Back(Case):
    def test_b(self):
        self.cases(
            ("ab c|d", "b", "ab |cd"),
            ("ab |cd", "b", "|ab cd"),
            ("ab.c|d", "2b", "ab|.cd"),
            ("ab.c|d", "3b", "|ab.cd"),
            ("ab\n  |cd", "b", "|ab\n  cd"),
            ("ab\n\n|cd", "b", "ab\n|\ncd"),
            ("ab\n|\ncd", "b", "|ab\n\ncd"),
            ("ab\n\n\n|cd", "2b", "ab\n|\n\ncd"),
            ("ab\n  \n|cd", "b", "|ab\n  \ncd"),
            ("ab | ", "b", "|ab  "),
            ("ab c|d", "db", "ab |d"),
            ("ab c|d", "d2b", "|d"),
        )

    def test_b_where_there_are_fewer(self):
        self.cases(
            ("  |ab", "b", "|  ab"),
            ("ab c|d", "9999b", "|ab cd"),
            ("  |ab", "db", "|ab"),
            ("\n|ab", "9b", "|\nab"),
        )
        self.rings("|ab", "b", "B", "db", "yB", "3b")
        self.rings("|\nab", "b", "db")

    def test_big_b(self):
        self.cases(
            ("ab.c|d", "B", "|ab.cd"),
            ("a,b (c) |d", "B", "a,b |(c) d"),
            ("a,b (c) |d", "2B", "|a,b (c) d"),
            ("a\n\n|(b", "B", "a\n|\n(b"),
        )


class Gaps(Case):
    def test_down(self):
        self.cases(
            ("|a\nb\n\nc", "}", "a\nb\n|\nc"),
            ("|a\n\n\n\nb\n\nc", "}", "a\n|\n\n\nb\n\nc"),
            ("a\n|\n\nb\n\nc", "}", "a\n\n\nb\n|\nc"),
            ("|a\n\nb\n\n\nc", "2}", "a\n\nb\n|\n\nc"),
            ("|a\n \nb\n\nc", "}", "a\n \nb\n|\nc"),
            ("|a\nb", "}", "a\n|b"),
            ("|a\n\nbcd", "2}", "a\n\nbc|d"),
            ("|a\n\n\n", "2}", "a\n\n\n|"),
            ("|a\n", "}", "a\n|"),
            ("a|b", "}", "a|b"),
            ("a\n|", "}", "a\n|"),
        )

    def test_up(self):
        self.cases(
            ("a\n\nb\n|c", "{", "a\n|\nb\nc"),
            ("a\n\n\n\n|b", "{", "a\n\n\n|\nb"),
            ("a\n\nb\n\n|\nc", "{", "a\n|\nb\n\n\nc"),
            ("a\n\nb\n\n\n|c", "2{", "a\n|\nb\n\n\nc"),
            ("a\n|b", "{", "|a\nb"),
            ("ab|c", "{", "|abc"),
            ("a\n\nb|c", "2{", "|a\n\nbc"),
            ("|ab", "{", "|ab"),
            ("\n|a", "{", "|\na"),
            ("a|b\n", "{", "|ab\n"),
        )

    def test_with_operators(self):
        self.cases(
            ("a|b\nc\n\nd", "d}", "|a\n\nd"),
            ("|ab\nc\n\nd", "d}", "|\n\nd"),
            ("a|b\ncd", "d}", "|a"),
            ("a|b", "d}", "|a"),
            ("a\n\nb\nc|d", "d{", "a\n|d"),
            ("a\n\nb\n|cd", "d{", "a\n|\ncd"),
            ("|ab", "d{", "|ab"),
            ("|ab\nc\n\nd", ">}", "\t|ab\n\tc\n\nd"),
        )


if __name__ == "__main__":
    unittest.main()
