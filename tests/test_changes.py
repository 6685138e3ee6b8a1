"""p P J ~ r i a I A o O."""

import unittest

from tests.helper import BACK, ENTER, ESC, Case, as_text, ask, ed_get, ed_keys, ed_text


class PutBytes(Case):
    def test_behind(self):
        self.cases(
            ("|ab cd", "yl$p", "ab cd|a"),
            ("|ab cd", "yep", "aa|bb cd"),
            ("|ab cd", "ye3p", "aababa|bb cd"),
            ("|ab\n\nc", "yejp", "ab\na|b\nc"),
            ("|ab\n\nc", "yej2p", "ab\naba|b\nc"),
        )

    def test_before(self):
        self.cases(
            ("|ab cd", "yl$P", "ab c|ad"),
            ("|ab cd", "yeP", "a|bab cd"),
            ("|ab cd", "ye2P", "aba|bab cd"),
            ("|ab\n\nc", "yejP", "ab\na|b\nc"),
        )

    def test_of_more_lines_one_is_on_the_first_byte(self):
        self.cases(
            ("|ab\ncd", "yG", "|ab\ncd"),
            ("|ab\ncd ef", "y/ ef" + ENTER + "$p", "ab|ab\ncd\ncd ef"),
            ("a|b\ncd ef", "y/d" + ENTER + "p", "ab|b\nc\ncd ef"),
            ("a|b\ncd ef", "y/d" + ENTER + "P", "a|b\ncb\ncd ef"),
            ("a|b\ncd ef", "y/d" + ENTER + "2p", "ab|b\ncb\nc\ncd ef"),
            ("a|b\ncd ef", "y/d" + ENTER + "3P", "a|b\ncb\ncb\ncb\ncd ef"),
            ("a|b\nx\ncd ef", "y/d" + ENTER + "2P", "a|b\nx\ncb\nx\ncb\nx\ncd ef"),
        )

    def test_of_more_lines_that_begin_with_a_line_without_bytes(self):
        self.cases(
            ("|\nab\ncd", "2y$Gp", "\nab\n|c\nabd"),
            ("|\nab\ncd", "2y$G$p", "\nab\nc|d\nab"),
            ("|\nab\ncd", "2y$p", "|\nab\nab\ncd"),
        )

    def test_no_bytes(self):
        self.cases(
            ("ab|c", "mad`ap", "ab|c"),
            ("ab|c", "mad`aP", "a|bc"),
            ("|abc", "mad`aP", "|abc"),
            ("|abc", "mad`a9999p", "|abc"),
            ("a\n|", "d$9P", "a\n|"),
        )


class PutLines(Case):
    def test_below(self):
        self.cases(
            ("  1|1\n2\n3", "yyp", "  11\n  |11\n2\n3"),
            ("|1\n2\n3", "yyGp", "1\n2\n3\n|1"),
            ("|1\n2\n3", "2yyp", "1\n|1\n2\n2\n3"),
            ("|1\n2\n3", "2yyG2p", "1\n2\n3\n|1\n2\n1\n2"),
            ("|1\n  2\n3", "2yyGp", "1\n  2\n3\n|1\n  2"),
            ("|\n2", "yyjp", "\n2\n|"),
            ("|   \n2", "yyjp", "   \n2\n  | "),
        )

    def test_above(self):
        self.cases(
            ("1\n  2|2", "yyP", "1\n  |22\n  22"),
            ("1\n|2", "yykP", "|2\n1\n2"),
            ("1\n|2", "yy3P", "1\n|2\n2\n2\n2"),
        )


class PutBells(Case):
    def test_nothing_was_ever_put_into_it(self):
        self.rings("a|b", "p", "P", "3p", "\"ap", "\"zP")
        self.case("|ab", "x\"ap", "|b", 1)
        self.case("|ab", "\"bx\"ap", "|b", 1)


class Join(Case):
    def test_two(self):
        self.cases(
            ("|ab\ncd\nef", "J", "ab| cd\nef"),
            ("a|b\n \t cd", "J", "ab| cd"),
            ("ab|c \nd", "J", "abc |d"),
            ("ab|c\t\nd", "J", "abc\t|d"),
            ("a|b\n)c", "J", "ab|)c"),
            ("a|b\n  )c", "J", "ab|)c"),
            ("a|b\n(c", "J", "ab| (c"),
            ("a|b\n\nc", "J", "a|b\nc"),
            ("a|b\n   \nc", "J", "a|b\nc"),
            ("|\nab", "J", "|ab"),
            ("|\n  ab", "J", "|ab"),
            ("|\n", "J", "|"),
            ("  | \nab", "J", "   |ab"),
            ("x\n|ab\ncd", "2J", "x\nab| cd"),
            ("x\n|ab\ncd", "1J", "x\nab| cd"),
        )

    def test_more(self):
        self.cases(
            ("|a\nb\nc\nd", "3J", "a b| c\nd"),
            ("|a\nb\n)\nd", "3J", "a b|)\nd"),
            ("|a\n\nb", "3J", "a| b"),
            ("|\n\nb", "3J", "|b"),
            ("|a\nb \n c", "3J", "a b |c"),
            ("|a\n\n", "3J", "|a"),
            ("|a\nb\n\nc", "3J", "a |b\nc"),
        )

    def test_fewer(self):
        self.rings("a\n|b", "J", "2J", "9999J")
        self.rings("a\n|b\nc", "3J")
        self.rings("|", "J")


class Tilde(Case):
    def test_changes_and_goes_on(self):
        self.cases(
            ("|abC", "~", "A|bC"),
            ("|abC", "2~", "AB|C"),
            ("|abC", "3~", "AB|c"),
            ("|abC", "9999~", "AB|c"),
            ("ab|C", "~", "ab|c"),
            ("ab|C", "5~", "ab|c"),
            ("|azAZ", "4~", "AZa|z"),
            ("|@[`{ 1_", "9~", "@[`{ 1|_"),
            ("|a", "~", "|A"),
            ("|\xe4\xc4", "2~", "\xe4|\xc4"),
            ("|ab\ncd", "5~", "A|B\ncd"),
        )

    def test_a_line_without_bytes(self):
        self.rings("a\n|\nb", "~", "3~")


class Replace(Case):
    def test_bytes(self):
        self.cases(
            ("a|bc", "rx", "a|xc"),
            ("a|bcd", "2rx", "ax|xd"),
            ("a|bc", "2rx", "ax|x"),
            ("a|bc", "r ", "a| c"),
            ("a|bc", "r~", "a|~c"),
            ("a|bc", "r3", "a|3c"),
        )

    def test_fewer(self):
        self.rings("a|bc\nd", "3rx", "9999rx")
        self.rings("a\n|\nb", "rx")

    def test_other_bytes(self):
        self.rings("a|bc", "r\x1f", "r\x7f", "r" + ESC, "r" + ENTER, "r\t", "r\n", "r\x00", "r\xff", "2r" + BACK)


class Insert(Case):
    def test_i(self):
        self.cases(
            ("a|b", "ixy" + ESC, "ax|yb"),
            ("a|b", "i" + ESC, "|ab"),
            ("|ab", "i" + ESC, "|ab"),
            ("a|b", "3ixy" + ESC, "axyxyx|yb"),
            ("a|b", "2ix" + ENTER + ESC, "ax\nx\n|b"),
            ("a|b", "2i1" + ENTER + "2" + ESC, "a1\n21\n|2b"),
            ("a|b", "2i1" + ENTER + "3" + ENTER + "2" + ESC, "a1\n3\n21\n3\n|2b"),
            ("|", "ix" + ESC, "|x"),
            ("a|b", "9999i" + ESC, "|ab"),
        )

    def test_a(self):
        self.cases(
            ("|ab", "axy" + ESC, "ax|yb"),
            ("a|b", "ax" + ESC, "ab|x"),
            ("a|b", "a" + ESC, "a|b"),
            ("|", "ax" + ESC, "|x"),
            ("|", "a" + ESC, "|"),
            ("|ab", "2ax" + ESC, "ax|xb"),
            ("|ab", "a" + ENTER + ESC, "a\n|b"),
        )

    def test_big_i(self):
        self.cases(
            (" \ta|b", "Ix" + ESC, " \t|xab"),
            ("ab|c", "Ixy" + ESC, "x|yabc"),
            ("ab|c", "I" + ESC, "|abc"),
            ("  ab|c", "I" + ESC, " | abc"),
            ("|   ", "Ix" + ESC, "   |x"),
            ("a\n|", "Ix" + ESC, "a\n|x"),
            (" |a", "2Ix" + ESC, " x|xa"),
        )

    def test_big_a(self):
        self.cases(
            ("|ab", "Ax" + ESC, "ab|x"),
            ("|ab", "A" + ESC, "a|b"),
            ("|ab\nc", "2Axy" + ESC, "abxyx|y\nc"),
            ("|", "A" + ESC, "|"),
            ("|ab", "Ax" + ENTER + "yz" + ESC, "abx\ny|z"),
        )

    def test_o(self):
        self.cases(
            ("|a\nb", "ox" + ESC, "a\n|x\nb"),
            ("a\n|b", "ox" + ESC, "a\nb\n|x"),
            ("|a\nb", "o" + ESC, "a\n|\nb"),
            ("  |a\nb", "oxy" + ENTER + "z" + ESC, "  a\nxy\n|z\nb"),
            ("|a\nb", "3ox" + ESC, "a\n|x\nb"),
            ("|a\nb", "ox" + ENTER + ESC, "a\nx\n|\nb"),
        )

    def test_big_o(self):
        self.cases(
            ("|a\nb", "Ox" + ESC, "|x\na\nb"),
            ("a\n|b", "O" + ESC, "a\n|\nb"),
            ("a\n|b", "3Oxy" + ESC, "a\nx|y\nb"),
            ("|a", "Ox" + ENTER + "y" + ESC, "x\n|y\na"),
        )

    def test_a_letter_in_front_is_not_looked_at(self):
        self.case("|", "\"aix" + ESC + "\"ap", "|x", 1)

    def test_many_times(self):
        told = ask(ed_keys("9999iabcdef" + ESC), ed_get())
        self.assertEqual(told[0], [0])
        self.assertEqual(as_text(told[1]), "abcdef" * 9999 + "\n")


class EditedTexts(Case):
    def test_a_little_of_all(self):
        told = ask(ed_text("the quick fox\njumps\n"),
                   ed_keys("wcwslow " + ESC + "A," + ESC + "joover" + ESC + "kyyGpk~J>>1Gfxrbu"), ed_get())
        self.assertEqual(told[1], [0])
        self.assertEqual(as_text(told[2]), "the slow fox,\njumps\n\tOver jumps\n")


if __name__ == "__main__":
    unittest.main()
