import unittest

from tests.helper import BACK, ENTER, ESC, WHERE, Case, as_text, ask, ed_get, ed_keys, ed_text


class Thrown(Case):
    def test_keys_that_are_no_command(self):
        known = set("\"123456789dcy<>xXDCsSYpPJ~urmiaIAoO.hl0^$jkGwbeWBE;,nN%{}ftFT'`/?")
        for byte in range(256):
            if chr(byte) not in known:
                with self.subTest(byte=byte):
                    told = ask(ed_text("ab\ncd\n"), ed_keys(chr(byte)), ed_get(), WHERE)
                    self.assertEqual(told[1:], [[1], [6, 97, 98, 10, 99, 100, 10], [0, 0, 0, 2, 0]])

    def test_thrown_away_whole_and_once(self):
        self.rings("ab |cd", "\"1", "\"A", "\"`", "\"{", "m`", "m{", "'{", "\"\"", "\"a\"", "3\"", "dq", "d" + ESC, "3" + ESC, "yd", "<>", "><",
                   "cd", "d\"", "dp", "dx", "d3q", "\"ad3" + ESC, "m1", "mA", "m" + ESC, "'1", "`A", "d'" + ESC,
                   "y`1", ESC, "12345", "d12345", "\"b99990", "9d10000")

    def test_what_follows_is_a_new_command(self):
        self.case("|abcd", "dqx", "|bcd", 1)
        self.case("|abcd", "12345x", "|bcd", 1)
        self.case("|abcd", "3\"x", "|bcd", 1)
        self.case("|abcd", "q" + ESC + "\x00\xffx", "|bcd", 4)

    def test_key_0_behind_an_operator_that_is_none(self):
        self.rings("ab |cd", "\x00", "d\x00", "3\x00")


class Counts(Case):
    def test_four_digits(self):
        self.case("|" + "ab" * 30, "10l", "ababababab|" + "ab" * 25)
        self.case("|" + "a" * 2000, "1000x", "|" + "a" * 1000)
        self.case("|" + "a" * 12000, "9999x", "|" + "a" * 2001)
        self.case("|" + "a" * 50, "100x", "|")

    def test_0_is_a_motion_if_nothing_of_a_count_is_before_it(self):
        self.cases(
            ("abc|d", "0", "|abcd"),
            ("abc|d", "d0", "|d"),
            ("abc|d", "3d0", "|d"),
            ("|" + "ab" * 6, "d10l", "|ab"),
            ("abc|d", "\"a0", "|abcd"),
        )

    def test_both_are_multiplied(self):
        self.cases(
            ("|abcdefgh", "2d3l", "|gh"),
            ("|abcdefgh", "d3l", "|defgh"),
            ("|abcdefgh", "3dl", "|defgh"),
            ("|1\n2\n3\n4\n5", "2d2d", "|5"),
            ("|abc", "9999d9999l", "|"),
            ("|1\n2\n3\n4\n5", "2d2G", "|5"),
        )

    def test_behind_the_letter(self):
        self.case("|abcd", "\"a2xp", "ca|bd")
        self.case("|abcd", "\"a2x\"ap", "ca|bd")


class PutIn(Case):
    def test_bytes_and_new_lines(self):
        self.cases(
            ("a|b", "ix y" + ESC, "ax |yb"),
            ("a|b", "i1" + ENTER + "2" + ESC, "a1\n|2b"),
            ("a|b", "i1" + ENTER + ESC, "a1\n|b"),
            ("a|b", "i\t ~" + ESC, "a\t |~b"),
        )

    def test_backspace(self):
        self.cases(
            ("a|b", "ixy" + BACK + "z" + ESC, "ax|zb"),
            ("a|b", "i" + BACK + "z" + ESC, "a|zb"),
            ("a|b", "ix" + BACK + BACK + BACK + ESC, "|ab"),
            ("a|b", "ix" + ENTER + BACK + "y" + ESC, "ax|yb"),
            ("a|b", "ix\x7f" + BACK + ESC, "|ab"),
        )

    def test_others_are_left_out(self):
        left_out = "".join(chr(byte) for byte in range(256) if not 32 <= byte <= 126 and byte not in (8, 9, 13, 27))
        self.case("a|b", "ix" + left_out + "y" + ESC, "ax|yb")
        self.case("a|b", "i" + "".join(chr(byte) for byte in range(32, 127)) + ESC,
                  "a" + "".join(chr(byte) for byte in range(32, 126)) + "|~b")

    def test_behind_which_keys(self):
        for keys in ("c$", "C", "s", "S", "cc", "i", "a", "I", "A", "o", "O", "cfb", "c/b" + ENTER, "2cl", "c'a"):
            with self.subTest(keys=keys):
                told = ask(ed_text("aab\nb\n"), ed_keys("ma" + keys + "3d"), WHERE, ed_keys(ESC), WHERE, ed_get())
                self.assertEqual(told[1], [0])
                self.assertEqual(told[2][4], len(keys) + 2)
                self.assertEqual([told[3], told[4][4]], [[0], 0])
                self.assertIn("3d", as_text(told[5]))

    def test_4096_keys(self):
        many = "a" * 4096
        told = ask(ed_keys("i" + many), WHERE, ed_keys(ESC), ed_get())
        self.assertEqual(told[:3], [[0], [0, 0, 0, 1, 4097], [0]])
        self.assertEqual(as_text(told[3]), many + "\n")

    def test_more_than_4096_keys(self):
        told = ask(ed_text("bc\n"), ed_keys("i" + "a" * 4096), ed_keys("x"), WHERE, ed_get(), ed_keys("x"), ed_get())
        self.assertEqual(told[1:5], [[0], [1], [0, 0, 0, 1, 0], [3, 98, 99, 10]])
        self.assertEqual(told[5:], [[0], [2, 99, 10]])

    def test_keys_that_are_left_out_or_take_away_are_keys_too(self):
        for some in ("\x7f", "a" + BACK):
            many = some * (4096 // len(some))
            self.assertEqual(ask(ed_keys("3A" + many + ESC))[0], [0])
            self.assertEqual(ask(ed_keys("3A" + many + "\x7f"), WHERE), [[1], [0, 0, 0, 1, 0]])

    def test_4096_of_each_behind_c_and_a_search(self):
        sought = "a" * 4096
        told = ask(ed_text("b" + sought + "\n"), ed_keys("c/" + sought + ENTER + "x" * 4096 + ESC), ed_get())
        self.assertEqual(told[1], [0])
        self.assertEqual(as_text(told[2]), "x" * 4096 + sought + "\n")
        told = ask(ed_text("b" + sought + "\n"), ed_keys("c/" + sought + ENTER + "x" * 4097), WHERE)
        self.assertEqual(told[1:], [[1], [0, 0, 0, 1, 0]])


class Sought(Case):
    def test_4096_keys(self):
        for key in "/?":
            sought = "a" * 4096
            told = ask(ed_text("b" + sought), ed_keys(key + sought), WHERE, ed_keys(ENTER), WHERE)
            self.assertEqual(told[1:], [[0], [0, 0, 0, 1, 4097], [0], [0, 0, 1, 1, 0]])

    def test_more_than_4096_keys(self):
        for key in ("/", "?", "d/", "2y?"):
            told = ask(ed_text("b" + "a" * 5000), ed_keys(key + "a" * 4097), WHERE, ed_keys("l"), WHERE)
            self.assertEqual(told[1:], [[1], [0, 0, 0, 1, 0], [0], [0, 0, 1, 1, 0]])


class BrokenOff(Case):
    def test_between_all_keys(self):
        for keys in ("\"a2d3w", "2cfbx" + ENTER + "y" + BACK + ESC, "3rx", "d/ab" + ENTER, "y'a", "2ixy" + ESC, "d`a",
                     "\"b3p", "?b" + ENTER, "3>>", "12l"):
            before = [ed_text("aab ab ab ab ab\nab b\nb\n"), ed_keys("ll\"byymahh")]
            whole = ask(*before, ed_keys(keys), ed_get(), WHERE)
            told = ask(*before, *[call for key in keys for call in (ed_keys(key), WHERE)], ed_get(), WHERE)
            with self.subTest(keys=keys):
                self.assertEqual(told[-2:], whole[-2:])
                self.assertEqual(sum(answer[0] for answer in told[2:-2:2]), whole[2][0])
                gathered = [answer[4] for answer in told[3:-2:2]]
                self.assertEqual(gathered, list(range(1, len(keys))) + [0])

    def test_nothing_is_done_before_the_last_key(self):
        told = ask(ed_text("abc\n"), ed_keys("cwxyz"), ed_get(), WHERE, ed_keys(ESC), ed_get())
        self.assertEqual(told[2:4], [[4, 97, 98, 99, 10], [0, 0, 0, 1, 5]])
        self.assertEqual(as_text(told[5]), "xyz\n")

    def test_a_motion_that_fails_is_told_when_the_command_is_whole(self):
        told = ask(ed_text("abc\n"), ed_keys("cfzdd"), WHERE, ed_keys(ESC), ed_get(), WHERE)
        self.assertEqual(told[1:], [[0], [0, 0, 0, 1, 5], [1], [4, 97, 98, 99, 10], [0, 0, 0, 1, 0]])


if __name__ == "__main__":
    unittest.main()
