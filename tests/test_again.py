"""u and the repeated change."""

import unittest

from tests.helper import ENTER, ESC, WHERE, Case, as_text, ask, ed_get, ed_keys, ed_text


class Undo(Case):
    def test_every_change(self):
        for keys in ("x", "X", "D", "dd", "dw", "dG", "d1G", "cwxy" + ESC, "ccx" + ENTER + "y" + ESC, "C" + ESC,
                     "s1" + ENTER + ESC, "S" + ESC, ">>", "<<", ">G", "J", "~", "rx", "ix" + ESC, "ax" + ESC,
                     "Ix" + ESC, "Ax" + ESC, "ox" + ESC, "Ox" + ESC, "d0", "3ix" + ENTER + ESC, "d{", "i" + ESC):
            self.case("1\n  a|b cd\n\nef", keys + "u", "1\n  a|b cd\n\nef")
            with self.subTest(again=keys):
                before = "1\n  a|b cd\n\nef"
                self.assertEqual(self.outcome(before, keys + "uu"), self.outcome(before, keys))

    def test_puts(self):
        for keys in ("p", "P", "3p", "\"ap", "\"aP", "\"a3p"):
            self.case("1\n  a|b cd", "\"ayy" + "yl" + keys + "u", "1\n  a|b cd")

    def test_the_last_change_alone(self):
        self.cases(
            ("|abcd", "xxu", "|bcd"),
            ("|abcd", "xxuu", "|cd"),
            ("|abcd", "xxuuu", "|bcd"),
            ("|abcd", "xuxu", "|abcd"),
            ("|abcd", "x3u", "|abcd"),
        )

    def test_the_places_are_exchanged_too(self):
        self.cases(
            ("ab|cd", "x0u", "ab|cd"),
            ("ab|cd", "x0uu", "|abd"),
            ("ab|cd", "x0u$u", "|abd"),
            ("ab|cd", "x0u$uu", "abc|d"),
            ("1\n2\n|3", "ddkuu", "|1\n2"),
        )

    def test_none_yet(self):
        self.rings("a|b", "u", "3u")
        self.case("|ab cd", "wmayyu", "ab |cd", 1)

    def test_a_bell_is_no_change(self):
        self.case("|ab\ncd", "xddpGJfz9ddu", "|cd", 3)
        self.case("|abc", "xhu", "|abc", 1)

    def test_registers_and_marks_stay(self):
        self.case("|abc", "xu$p", "abc|a")
        self.case("ab|c", "max0u0`a", "ab|c")

    def test_a_change_that_changed_nothing_is_one(self):
        self.cases(
            ("|ab", "x<<u", "|b"),
            ("|a1", "xr1u", "|1"),
            ("|ab", "xi" + ESC + "u", "|b"),
            ("|ab", "xd0u", "|b"),
        )


class Again(Case):
    def test_every_change(self):
        self.cases(
            ("|abcd", "x.", "|cd"),
            ("abc|d", "X.", "a|d"),
            ("|a b c d", "dw.", "|c d"),
            ("|1\n2\n3", "dd.", "|3"),
            ("|a b c d", "cwx" + ESC + "w.", "xb |xd"),
            ("|1\n2", "ccx" + ESC + "j.", "x\n|x"),
            ("|a", ">>.", "\t\t|a"),
            ("\t\t|a", "<<.", "|a"),
            ("|ab", "ylp.", "aa|ab"),
            ("|ab", "ylP.", "|aaab"),
            ("|a\nb\nc", "J.", "a b| c"),
            ("|abcd", "~.", "AB|cd"),
            ("|abcd", "rxl.", "x|xcd"),
            ("|ab", "ixy" + ESC + ".", "xx|yyab"),
            ("|ab", "ax" + ESC + ".", "ax|xb"),
            (" |ab", "Ix" + ESC + ".", " |xxab"),
            ("|ab", "Ax" + ESC + ".", "abx|x"),
            ("|ab", "ox" + ESC + ".", "ab\nx\n|x"),
            ("|ab", "Ox" + ESC + ".", "|x\nx\nab"),
            ("|abcdef", "sx" + ESC + "l.", "x|xcdef"),
            ("|ab\ncd", "Dj.", "\n|"),
            ("|ab\ncd", "Cx" + ESC + "j.", "x\n|x"),
        )

    def test_with_its_count_or_the_new_one(self):
        self.cases(
            ("|abcdefgh", "2x.", "|efgh"),
            ("|abcdefgh", "2x3.", "|fgh"),
            ("|abcdefgh", "x3.", "|efgh"),
            ("|abcdefghijkl", "2x3..", "|ijkl"),
            ("|abcdefghijkl", "2d2l3.", "|hijkl"),
            ("|abcdefghijkl", "2d2l.", "|ijkl"),
            ("|1\n2\n3\n4\n5", "2dd1.", "|4\n5"),
            ("|1\n2\n3\n4\n5", "J3.", "1 2 3| 4\n5"),
            ("|ab", "ix" + ESC + "3.", "xx|xxab"),
            ("|ab", "2ix" + ESC + ".", "xx|xxab"),
            ("|1\n2\n3\n4\n5", "jdG1G.", "|"),
            ("|1\n2\n3\n4\n5", "GdG2G3.", "1\n|4"),
            ("|ab", "yl2p3.", "aaaaa|ab"),
            ("|abcd", "rx3.", "xx|xd"),
            ("|axbxcxd", "dfx2.", "|d"),
            ("|a b c d e", "cwx" + ESC + "2.", "|xd e"),
        )

    def test_the_letter_is_the_changes_own(self):
        self.cases(
            ("|abcd", "\"ax\"bx\"a.\"bp", "d|c"),
            ("|abcdef", "\"axl2.yl\"ap", "bec|df"),
            ("|abc", "\"ayll\"byl\"ap.", "aba|ac"),
        )

    def test_but_u(self):
        self.cases(
            ("|abcd", "xu.", "|bcd"),
            ("|abcd", "xuu.", "|cd"),
            ("|abcd", "x.u", "|bcd"),
            ("|abcd", "x.uu", "|cd"),
        )

    def test_a_motion_of_the_last_time_is_the_last_one_then(self):
        self.cases(
            ("|axbxcydy", "fx0d;fy0.", "|dy"),
            ("|a b c", "/b" + ENTER + "0dn/c" + ENTER + "0.", "|c"),
            ("|axbxcydy", "dfxfy0.;", "|cydy", 1),
        )

    def test_neither_yank_nor_mark_nor_motion_nor_bell(self):
        self.cases(
            ("|abcd", "xylmaljkhw0.", "|cd", 2),
            ("|abcd", "xdfz.", "|cd", 1),
            ("|ab", "yl.", "|ab", 1),
        )

    def test_none_yet(self):
        self.rings("a|b", ".", "3.")

    def test_that_can_not_be_done(self):
        self.case("|a\n2\n3", "2dd.", "|3", 1)
        self.case("|a\n2\n3", "2dd.u", "|a\n2\n3", 1)
        self.case("|1\n2\n3\n4", "dd9..", "|3\n4", 1)
        self.case("|abc\n", "x2G.", "bc\n|", 1)

    def test_what_was_put_in_stays_what_it_was(self):
        told = ask(ed_text("a\n"), ed_keys("ix" + ESC + "."), ed_keys("iy" + ESC), ed_keys(".2."), ed_get(), WHERE)
        self.assertEqual(told[1:4], [[0], [0], [0]])
        self.assertEqual(as_text(told[4]), "yyyyxxa\n")


if __name__ == "__main__":
    unittest.main()
