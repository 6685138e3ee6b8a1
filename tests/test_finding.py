"""Motions to named bytes, by search and by brackets."""

import unittest

from tests.helper import ENTER, ESC, WHERE, Case, ask, ed_get, ed_keys, ed_text


class Find(Case):
    def test_f_and_t(self):
        self.cases(
            ("|axbx", "fx", "a|xbx"),
            ("|axbx", "2fx", "axb|x"),
            ("a|xbx", "fx", "axb|x"),
            ("|axbx", "tx", "|axbx"),
            ("|abx", "tx", "a|bx"),
            ("|axbx", "2tx", "ax|bx"),
            ("|abxc", "dfx", "|c"),
            ("|abxc", "dtx", "|xc"),
            ("|axc", "dtx", "|xc"),
            ("|abx", "cfxy" + ESC, "|y"),
        )
        self.rings("|axbx\nx", "fy", "3fx", "ty", "3tx", "dfy", "d3tx", "f\n")
        self.rings("ab|x\nx", "fx", "tx", "dfx")
        self.rings("|\nx", "fx", "tx")

    def test_big_f_and_t(self):
        self.cases(
            ("xaxb|c", "Fx", "xa|xbc"),
            ("xaxb|c", "2Fx", "|xaxbc"),
            ("xax|bc", "Tx", "xax|bc"),
            ("xab|c", "Tx", "x|abc"),
            ("xaxb|c", "2Tx", "x|axbc"),
            ("axb|c", "dFx", "a|c"),
            ("axb|c", "dTx", "ax|c"),
            ("ax|c", "dTx", "ax|c"),
        )
        self.rings("x\nax|b", "Fy", "2Fx", "Ty", "2Tx", "dFy")
        self.rings("ax\n|xa", "Fx", "Tx")

    def test_any_byte(self):
        for byte in range(256):
            if byte != 10:
                told = ask([1, 3, 65 if byte != 65 else 66, byte, byte], [2, 2, 102, byte], WHERE)
                self.assertEqual(told[1:], [[0], [0, 0, 1, 1, 0]])

    def test_again(self):
        self.cases(
            ("|axbxcx", "fx;", "axb|xcx"),
            ("|axbxcx", "fx2;", "axbxc|x"),
            ("|abxcxd", "tx;", "a|bxcxd"),
            ("|abxcxd", "tx2;", "abx|cxd"),
            ("xaxax|a", "Fx;", "xa|xaxa"),
            ("xaxaxa|a", "Tx;", "xaxax|aa"),
            ("|axbxcx", "fxd;", "a|cx"),
            ("xaxax|a", "Fxd;", "xa|xa"),
            ("|axbxcx", "2fx0;", "a|xbxcx"),
        )

    def test_the_other_way(self):
        self.cases(
            ("|axbxcx", "2fx,", "a|xbxcx"),
            ("|axbxcx", "3fx2,", "a|xbxcx"),
            ("|axbbxcx", "2tx,", "ax|bbxcx"),
            ("xaxax|a", "2Fx,", "xaxa|xa"),
            ("xabax|a", "2Tx,", "xab|axa"),
            ("|axbxcx", "3fxd,", "axb|x"),
            ("xaxax|a", "2Fxd,", "xa|a"),
            ("|axbxcxd", "2fx,;", "axb|xcxd"),
        )

    def test_none_before(self):
        self.rings("|abab", ";", ",", "d;", "y,", "3;")

    def test_an_operators_find_counts_and_a_bell_does_not(self):
        self.case("|axbxcx", "dfx;", "b|xcx")
        self.case("|axbyaxby", "fxfz0;", "a|xbyaxby", 1)
        self.case("|axby", "fz;", "|axby", 2)
        self.case("|axbyaxby", "fx0dfz;", "a|xbyaxby", 1)
        self.case("|axbxcx", "fx3;0;", "a|xbxcx", 1)


class Bracket(Case):
    def test_there_and_back(self):
        self.cases(
            ("|(a)", "%", "(a|)"),
            ("(a|)", "%", "|(a)"),
            ("|[a]", "%", "[a|]"),
            ("{a|}", "%", "|{a}"),
            ("|{a}", "%", "{a|}"),
            ("[a|]", "%", "|[a]"),
            ("|((a)b)", "%", "((a)b|)"),
            ("(|(a)b)", "%", "((a|)b)"),
            ("((a)b|)", "%", "|((a)b)"),
            ("|a (b) c", "%", "a (b|) c"),
            ("(a |b) (c)", "%", "|(a b) (c)"),
            ("|(a\n\n b [\n)", "%", "(a\n\n b [\n|)"),
            ("(a\n] {\n\n|)", "%", "|(a\n] {\n\n)"),
            ("|([)]", "%", "([|)]"),
            ("([)|]", "%", "(|[)]"),
            ("|(a)(b)", "5%", "(a|)(b)"),
        )

    def test_bells(self):
        self.rings("|(a", "%", "d%")
        self.rings("a|)", "%", "y%")
        self.rings("|ab\n()", "%")
        self.rings("(a)|b", "%")
        self.rings("(a)\n|\n(b)", "%")
        self.rings("|((a)", "%")
        self.rings("|)\n(", "%")
        self.rings(")\n|(", "%")
        self.rings("[b]|)\n)", "%")

    def test_with_operators(self):
        self.cases(
            ("a|(b)c", "d%", "a|c"),
            ("a(b|)c", "d%", "a|c"),
            ("|a(b)c", "d%", "|c"),
            ("a(b|c)d", "d%", "a|)d"),
            ("a|(b\nc)d", "d%", "a|d"),
            ("a|(b\nc)d", ">%", "\t|a(b\n\tc)d"),
            ("a(b|)c", "y%", "a|(b)c"),
            ("a(b|)c", "y%P", "a(b|)(b)c"),
        )


class Search(Case):
    def test_ahead(self):
        self.cases(
            ("|ab ab", "/ab" + ENTER, "ab |ab"),
            ("|a\nb\nab", "/ab" + ENTER, "a\nb\n|ab"),
            ("|abab ab", "2/ab" + ENTER, "abab |ab"),
            ("|aaaa", "/aa" + ENTER, "a|aaa"),
            ("|aaaa", "2/aa" + ENTER, "aa|aa"),
            ("|a\nb", "/b" + ENTER, "a\n|b"),
            ("|x (.*) y", "/(.*)" + ENTER, "x |(.*) y"),
        )

    def test_back(self):
        self.cases(
            ("ab a|b", "?ab" + ENTER, "ab |ab"),
            ("ab |ab", "?ab" + ENTER, "|ab ab"),
            ("ab\n\nc|d", "?a" + ENTER, "|ab\n\ncd"),
            ("ab ab\nc|d", "2?ab" + ENTER, "|ab ab\ncd"),
            ("aaa|a", "?aa" + ENTER, "aa|aa"),
        )

    def test_goes_on_at_the_other_end(self):
        self.cases(
            ("ab\nc|d", "/ab" + ENTER, "|ab\ncd"),
            ("ab c|d", "/ab" + ENTER, "|ab cd"),
            ("|ab\ncd", "?cd" + ENTER, "ab\n|cd"),
            ("a|b cd", "?cd" + ENTER, "ab |cd"),
            ("x\n|ab", "/ab" + ENTER, "x\n|ab"),
            ("x\n|ab", "?ab" + ENTER, "x\n|ab"),
            ("x\n|ab", "7/ab" + ENTER, "x\n|ab"),
            ("|a\na\na", "3/a" + ENTER, "|a\na\na"),
            ("|a\na\na", "4/a" + ENTER, "a\n|a\na"),
            ("|a\na\na", "9998/a" + ENTER, "a\na\n|a"),
            ("|a\na\na", "4?a" + ENTER, "a\na\n|a"),
            ("|aa", "4/a" + ENTER, "|aa"),
            ("a|a", "4?a" + ENTER, "a|a"),
            ("a |a\na", "2/a" + ENTER, "|a a\na"),
            ("a |a a", "2?a" + ENTER, "a a |a"),
            ("a|x\na", "9999d9998/a" + ENTER, "|x\na"),
        )

    def test_in_one_line_only(self):
        self.rings("|a\nb", "/a\nb" + ENTER, "/ab" + ENTER, "?\n" + ENTER)

    def test_nowhere(self):
        self.rings("a|b", "/c" + ENTER, "?abc" + ENTER, "d/c" + ENTER, "y?c" + ENTER, "c/z" + ENTER + "x" + ESC)
        self.rings("|", "/a" + ENTER, "?a" + ENTER)

    def test_any_byte_but_13(self):
        for byte in range(256):
            if byte not in (10, 13):
                told = ask([1, 3, 65 if byte != 65 else 66, byte, 10], [2, 3, 47, byte, 13], WHERE)
                self.assertEqual(told[1:], [[0], [0, 0, 1, 1, 0]])

    def test_without_bytes_those_of_the_last_time(self):
        self.cases(
            ("|a b a b", "/b" + ENTER + "/" + ENTER, "a b a |b"),
            ("a b a |b", "?b" + ENTER + "?" + ENTER, "a b a |b"),
            ("a b |a b", "/b" + ENTER + "?" + ENTER, "a |b a b"),
            ("a b |a b", "?b" + ENTER + "/" + ENTER, "a b a |b"),
            ("|a b a b", "/b" + ENTER + "?" + ENTER + "n", "a |b a b"),
            ("|a b a b a b", "/b" + ENTER + "0?" + ENTER + "n", "a b a |b a b"),
            ("|a b a b", "/b" + ENTER + "0d/" + ENTER, "|b a b"),
        )
        self.rings("a|b", "/" + ENTER, "?" + ENTER, "d/" + ENTER)

    def test_n_and_big_n(self):
        self.cases(
            ("|a b a b a b", "/b" + ENTER + "n", "a b a |b a b"),
            ("|a b a b a b", "/b" + ENTER + "2n", "a b a b a |b"),
            ("|a b a b a b", "/b" + ENTER + "3n", "a |b a b a b"),
            ("|a b a b a b", "/b" + ENTER + "nN", "a |b a b a b"),
            ("|a b a b a b", "/b" + ENTER + "2N", "a b a |b a b"),
            ("a b a b a |b", "?b" + ENTER + "n", "a |b a b a b"),
            ("a b a b a |b", "?b" + ENTER + "N", "a b a b a |b"),
            ("|a b a b a b", "/b" + ENTER + "NNn", "a b a b a |b"),
            ("|a b a b a b", "2/b" + ENTER + "n", "a b a b a |b"),
            ("|a b a b a b", "/b" + ENTER + "dn", "a |b a b"),
            ("a b a b |a b", "/b" + ENTER + "dN", "a b a |b"),
        )
        self.rings("a|b", "n", "N", "dn", "yN")

    def test_a_bell_leaves_the_last_time(self):
        self.case("|a b c", "/b" + ENTER + "/z" + ENTER + "0n", "a |b c", 1)
        self.case("|a b c", "/b" + ENTER + "?z" + ENTER + "$n", "a |b c", 1)
        self.case("|a b c", "/z" + ENTER + "n", "|a b c", 2)

    def test_n_where_they_stand_no_more(self):
        self.case("|a b a", "/b" + ENTER + "xn", "a | a", 1)

    def test_with_operators(self):
        self.cases(
            ("|ab cd", "d/cd" + ENTER, "|cd"),
            ("ab c|d", "d?b" + ENTER, "a|d"),
            ("|ab\ncd", "d/d" + ENTER, "|d"),
            ("|ab\ncd", "d/cd" + ENTER, "|\ncd"),
            ("ab\nc|d", "d/ab" + ENTER, "|d"),
            ("ab\n|cd", "d/ab" + ENTER, "|\ncd"),
            ("x|ab", "d/ab" + ENTER, "x|ab"),
            ("|ab cd", "y/cd" + ENTER + "P", "ab| ab cd"),
            ("|ab cd", "c/cd" + ENTER + "x" + ESC, "|xcd"),
        )

    def test_many_lines(self):
        told = ask(ed_text("a\n" * 9000 + "b\n"), ed_keys("/b" + ENTER), WHERE, ed_keys("/a" + ENTER + "?b" + ENTER),
                   WHERE, ed_get(1))
        self.assertEqual(told[1:], [[0], [0, 9000, 0, 9001, 0], [0], [0, 9000, 0, 9001, 0], [-2]])


if __name__ == "__main__":
    unittest.main()
