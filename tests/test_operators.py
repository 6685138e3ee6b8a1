"""What an operator has of the text, and what d c y < > do with it."""

import unittest

from tests.helper import ENTER, ESC, WHERE, Case, ask, ed_keys, ed_text


class TheBytes(Case):
    def test_the_later_place_of_to_is_not_among_them(self):
        self.cases(
            ("|ab cd", "dw", "|cd"),
            ("ab c|d", "db", "ab |d"),
            ("ab|cd", "d0", "|cd"),
            ("a|b\nc d", "d2w", "a|d"),
        )

    def test_the_later_place_of_through_is(self):
        self.cases(
            ("|ab cd", "de", "| cd"),
            ("|abc", "dfb", "|c"),
            ("a(b|)c", "d%", "a|c"),
            ("a|b\ncd e", "d2e", "|a"),
        )

    def test_to_a_later_line_with_nothing_before(self):
        self.cases(
            ("a|b\ncd", "dw", "|a\ncd"),
            ("a|b\n \t cd", "dw", "|a\n \t cd"),
            ("a|b\n\ncd", "dw", "|a\n\ncd"),
            ("a|b\n  \n cd", "dw", "|a\n cd"),
            ("a b\n|\ncd", "dw", "a b\n|\ncd"),
            ("|ab\ncd", "dw", "|\ncd"),
            ("ab c|d\n  ef", "c2wx" + ESC, "ab c|x"),
            ("a|b\n cd", "ywP", "a|bb\n cd"),
        )

    def test_the_same_if_one_is_oneself_at_the_later_place(self):
        self.cases(
            ("ab\n|cd", "db", "|\ncd"),
            ("ab\n  |cd", "db", "|\n  cd"),
            ("x ab\n\n  |cd", "d2b", "x| \n  cd"),
            ("ab\n c|d", "d2b", "|d"),
            ("a\n|\nb", "db", "|\n\nb"),
        )

    def test_to_a_later_line_with_something_before(self):
        self.case("a|b\nc d", "d/d" + ENTER, "a|d")
        self.case("a|b\n c d", "d/d" + ENTER, "a|d")

    def test_lines_are_whole(self):
        self.cases(
            ("1\n2|2\n3\n4", "dj", "1\n|4"),
            ("1\n2\n33|3\n4", "dk", "1\n|4"),
        )


class Doubled(Case):
    def test_whole_lines_from_ones_own_on(self):
        self.cases(
            ("1\n|2\n3\n4", "dd", "1\n|3\n4"),
            ("1\n|2\n3\n4", "2dd", "1\n|4"),
            ("1\n|2\n3\n4", "d2d", "1\n|4"),
            ("1\n|2\n3\n4", "3dd", "|1"),
            ("1\n|2\n3\n4", "y2yP", "1\n|2\n3\n2\n3\n4"),
            ("1\n|2\n3\n4", "2ccx" + ESC, "1\n|x\n4"),
            ("1\n|2\n3\n4", "2>>", "1\n\t|2\n\t3\n4"),
            ("\t1\n|\t2\n\t3\n\t4", "2<<", "\t1\n|2\n3\n\t4"),
        )

    def test_fewer(self):
        self.rings("1\n|2\n3", "3dd", "d3d", "2d2d", "3yy", "3Y", "3cc" + ESC, "3S" + ESC, "3>>", "3<<", "9999dd")


class Short(Case):
    def test_each(self):
        self.cases(
            ("a|bc", "x", "a|c"),
            ("|abc", "2x", "|c"),
            ("ab|c", "x", "a|b"),
            ("ab|c", "5x", "a|b"),
            ("ab|c", "X", "a|c"),
            ("ab|c", "5X", "|c"),
            ("a|bc", "D", "|a"),
            ("a|bc\nd\ne", "2D", "|a\ne"),
            ("a|bc", "Cx" + ESC, "a|x"),
            ("a|bc\nd\ne", "2Cx" + ESC, "a|x\ne"),
            ("a|bc", "sxy" + ESC, "ax|yc"),
            ("a|bcd", "2sx" + ESC, "a|xd"),
            ("1\n  2|2\n3", "Sx" + ESC, "1\n|x\n3"),
            ("1\n|2\n3", "2Sx" + ESC, "1\n|x"),
            ("1\n|2\n3", "YP", "1\n|2\n2\n3"),
            ("1\n|2\n3", "2YP", "1\n|2\n3\n2\n3"),
        )

    def test_with_a_letter(self):
        self.cases(
            ("|abc", "\"qxx\"qp", "c|a"),
            ("ab|c", "\"qX0\"qP", "|bac"),
            ("a|bc", "\"qD\"qP", "b|ca"),
            ("|a\nb", "\"qYj\"qp", "a\nb\n|a"),
        )

    def test_in_a_line_without_bytes(self):
        self.rings("a\n|\nb", "x", "X", "s" + ESC, "3x")
        self.cases(
            ("a\n|\nb", "D", "a\n|\nb"),
            ("a\n|\nb", "Cx" + ESC, "a\n|x\nb"),
            ("a\n|\nb", "Sx" + ESC, "a\n|x\nb"),
        )


class Delete(Case):
    def test_bytes(self):
        self.cases(
            ("ab|cd", "d$", "a|b"),
            ("|ab", "d$", "|"),
            ("a|b\ncd\nef", "d/f" + ENTER, "a|f"),
            ("ab c|d", "dFa", "|d"),
        )

    def test_whole_lines(self):
        self.cases(
            ("|1\n  2", "dd", "  |2"),
            ("1\n  2\n|3", "dd", "1\n  |2"),
            ("1\n|2\n    ", "dd", "1\n   | "),
            ("|1", "dd", "|"),
            ("|1\n2", "dj", "|"),
            ("1\n|2", "dk", "|"),
            ("1\n|2\n3", "d1G", "|3"),
            ("|", "dd", "|"),
            ("|\n", "dd", "|"),
        )

    def test_goes_into_the_register(self):
        self.cases(
            ("|ab cd", "dw$p", "cdab| "),
            ("|1\n2", "ddp", "2\n|1"),
            ("|1\n2", "djp", "\n|1\n2"),
            ("|1\n2", "djP", "|1\n2\n"),
            ("a|b\ncd\nef", "d/f" + ENTER + "P", "a|b\ncd\nef"),
        )


class Change(Case):
    def test_bytes(self):
        self.cases(
            ("|ab cd", "cwx" + ESC, "|xcd"),
            ("|ab cd", "cexyz" + ESC, "xy|z cd"),
            ("ab c|d", "cbx" + ESC, "ab |xd"),
            ("a|bc", "c$" + ESC, "|a"),
            ("|abc", "cl" + ESC, "|bc"),
            ("ab|c", "cl" + ESC, "a|b"),
            ("a|b c", "cw1" + ENTER + "2" + ESC, "a1\n|2c"),
            ("a|b c", "cw1" + ENTER + ESC, "a1\n|c"),
            ("a|b\ncd", "c/d" + ENTER + "x" + ESC, "a|xd"),
            ("ab|c", "c0" + ESC, "|c"),
            ("|abc", "c0x" + ESC, "|xabc"),
        )

    def test_whole_lines(self):
        self.cases(
            ("1\n  2|2\n3", "ccx" + ESC, "1\n|x\n3"),
            ("1\n|2\n3", "cc" + ESC, "1\n|\n3"),
            ("|1\n2", "cjx" + ESC, "|x"),
            ("|1\n2", "cGxy" + ENTER + "z" + ESC, "xy\n|z"),
            ("1\n2\n|3", "ckx" + ENTER + ESC, "1\nx\n|"),
            ("|", "ccab" + ESC, "a|b"),
        )

    def test_goes_into_the_register(self):
        self.cases(
            ("|ab cd", "cwx" + ESC + "$p", "xcdab| "),
            ("|1\n2", "\"kccx" + ESC + "p", "x\n|1\n2"),
            ("|1\n2", "\"kccx" + ESC + "yl\"kP", "|1\nx\n2"),
        )

    def test_what_is_put_in_goes_into_no_register(self):
        self.case("|", "iab" + ESC + "p", "a|b", 1)

    def test_the_count_is_the_motions(self):
        self.case("|a b c d", "2cwx" + ESC, "|xc d")


class Yank(Case):
    def test_bytes(self):
        self.cases(
            ("|ab cd", "yw", "|ab cd"),
            ("ab c|d", "yb", "ab |cd"),
            ("ab c|d", "y0", "|ab cd"),
            ("ab\nc|d", "y?b" + ENTER, "a|b\ncd"),
            ("ab|c", "y$", "ab|c"),
        )

    def test_whole_lines(self):
        self.cases(
            ("ab|c\nd", "yy", "ab|c\nd"),
            ("ab|c\nd", "yj", "ab|c\nd"),
            ("abc\nde|f", "yk", "ab|c\ndef"),
            ("a\nde|f", "yk", "|a\ndef"),
            ("\nde|f", "yk", "|\ndef"),
            ("abcd\n2\nde|f", "y1G", "ab|cd\n2\ndef"),
            ("abc|d\n  x\ny", "yG", "abc|d\n  x\ny"),
        )

    def test_the_text_is_as_it_was_and_there_is_no_change(self):
        self.case("|ab cd", "yyywyju", "|ab cd", 2)


class Shift(Case):
    def test_right(self):
        self.cases(
            ("ab|c", ">>", "\t|abc"),
            ("  ab|c", ">>", "\t  |abc"),
            ("|a\n\nb", "3>>", "\t|a\n\n\tb"),
            ("|\na", ">j", "|\n\ta"),
            ("a|b\n  c", ">j", "\t|ab\n\t  c"),
            ("| ", ">>", "\t| "),
            ("a\n|b\nc", ">k", "\t|a\n\tb\nc"),
            ("|", ">>", "|"),
        )

    def test_left(self):
        self.cases(
            ("\tab|c", "<<", "|abc"),
            ("\t\tab|c", "<<", "\t|abc"),
            ("          ab|c", "<<", "  |abc"),
            ("        ab|c", "<<", "|abc"),
            ("   ab|c", "<<", "|abc"),
            ("  \tab|c", "<<", "\t|abc"),
            ("\t  ab|c", "<<", "  |abc"),
            ("ab|c", "<<", "|abc"),
            ("|\n\ta\n  b", "3<<", "|\na\nb"),
            ("  |  ", "<<", "|"),
            ("\ta\n\t|b\nc", "<k", "|a\nb\nc"),
        )

    def test_whole_lines_of_the_bytes_that_they_have(self):
        self.cases(
            ("a|b cd", ">w", "\t|ab cd"),
            ("a|b\ncd", ">w", "\t|ab\ncd"),
            ("a|b\ncd", ">e", "\t|ab\n\tcd"),
            ("a|b\ncd\nef", ">/f" + ENTER, "\t|ab\n\tcd\n\tef"),
            ("a|b\ncd\nef", ">/ef" + ENTER, "\t|ab\n\tcd\nef"),
            ("|ab\ncd\nef", "2>$", "\t|ab\n\tcd\nef"),
            ("|ab", ">0", "\t|ab"),
            ("ab\nc|d", ">{", "\t|ab\n\tcd"),
        )

    def test_leaves_the_registers(self):
        self.case("|ab", ">>p", "\t|ab", 1)
        self.case("|ab", "\"a>>\"ap", "\t|ab", 1)

    def test_bells_of_the_motion(self):
        self.rings("|ab", ">h", "<j", ">k", ">fz", "<'a", ">/z" + ENTER, ">%", ">;", "<n")


class TheRegisters(Case):
    def test_named_and_without_a_name(self):
        self.cases(
            ("|ab", "\"axp", "b|a"),
            ("|abc", "\"axx\"ap", "c|a"),
            ("|abc", "\"axxp", "c|b"),
            ("|abc", "\"ax\"bx\"aP", "|ac"),
            ("|abc", "\"ax\"ax\"ap", "c|b"),
        )

    def test_a_bell_puts_nothing_into_them(self):
        told = ask(ed_text("ab\n"), ed_keys("yldj"), ed_keys("dfz3yyp"), WHERE)
        self.assertEqual(told[1:], [[1], [2], [0, 0, 1, 1, 0]])

    def test_no_bytes_are_something(self):
        self.cases(
            ("a|bc", "d`a", "a|bc", 1),
            ("|abc", "d0p", "|abc"),
            ("a|bc", "mad`ap", "a|bc"),
            ("a|bc", "mad`aP", "|abc"),
            ("|abc", "y0P", "|abc"),
            ("a\n|", "d$p", "a\n|"),
            ("a\n|", "\"zy$\"zP", "a\n|"),
            ("ab|c", "ylmad`a3p", "ab|c"),
        )


if __name__ == "__main__":
    unittest.main()
