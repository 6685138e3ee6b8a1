"""The 65536 bytes that a text has at most, with a newline behind each line."""

import unittest

from tests.helper import ENTER, ESC, WHERE, Case, ask, ed_get, ed_keys, ed_text

FULL = [ed_text("x" + "a" * 16382), ed_keys("yy3p1G")]  # 65536 bytes in four lines


class Room(Case):
    def told(self, keys, before=FULL):
        """The bells, whether the text is as before, how long it is, the place."""
        taken = ask(*before, ed_get(), ed_keys(keys), ed_get(), WHERE)
        return taken[-2 - 1][0], taken[-4] == taken[-2], taken[-2][0], taken[-1][1:3]

    def test_the_text_is_full(self):
        self.assertEqual(ask(*FULL, ed_get(65535), WHERE)[-2:], [[-2], [0, 0, 0, 4, 0]])

    def test_bells(self):
        for keys in ("ib" + ESC, "ab" + ESC, "Ib" + ESC, "Ab" + ESC, "o" + ESC, "O" + ESC, "i" + ENTER + ESC, ">>",
                     ">G", "p", "P", "\"ap", "9999p", "9999ib" + ESC, "9999P", "9999i" + "b" * 4096 + ESC,
                     "9999Ab" + ENTER + ESC):
            with self.subTest(keys=keys):
                self.assertEqual(self.told(keys), (1, True, 65536, [0, 0]))

    def test_bells_of_c(self):
        for keys in ("clbc" + ESC, "sbc" + ESC, "c0b" + ESC, "cl" + ENTER + "b" + ESC, "2clabc" + ESC):
            with self.subTest(keys=keys):
                self.assertEqual(self.told(keys), (1, True, 65536, [0, 0]))

    def test_what_makes_it_no_longer_is_done(self):
        for keys, size in (("clb" + ESC, 65536), ("cl" + ENTER + ESC, 65536), ("rb", 65536), ("~", 65536),
                           ("J", 65536), ("<<", 65536), ("i" + ESC, 65536), ("x", 65535), ("2clb" + ESC, 65535),
                           ("ccb" + ESC, 49154), ("dd", 49152), ("mad`a9999p", 65536), ("xib" + ESC, 65536),
                           ("xo" + ESC, 65536), ("xGo" + ESC, 65536), ("ddP", 65536), ("dd>>", 49153)):
            with self.subTest(keys=keys):
                told = self.told(keys)
                self.assertEqual((told[0], told[2]), (0, size))

    def test_n_times_up_to_the_last_byte(self):
        before = [ed_text("ab\n" + "c" * 5540)]
        self.assertEqual(self.told("9998iabcdef" + ESC, before)[:3], (0, False, 65532))
        self.assertEqual(self.told("9999iabcdef" + ESC, before)[:3], (1, True, 5544))
        before = [ed_text("ab\n" + "c" * 5533), ed_keys("yl")]
        self.assertEqual(self.told("9999p" * 6, before)[:3], (0, False, 65531))
        self.assertEqual(self.told("9999p" * 6 + "5p", before)[:3], (0, False, 65536))
        self.assertEqual(self.told("9999p" * 6 + "6p", before)[:3], (1, False, 65531))

    def test_bytes_of_more_lines(self):
        before = [ed_text("a\nbc"), ed_keys("2y$")]  # four bytes: a, a newline, b, c
        self.assertEqual(self.told("9999P", before)[2], 5 + 9999 * 4)
        self.assertEqual(self.told("9999P6383P", before)[:3], (0, False, 5 + 16382 * 4))
        self.assertEqual(self.told("9999P6384P", before)[:3], (1, False, 5 + 9999 * 4))

    def test_whole_lines(self):
        before = [ed_text("a"), ed_keys("yy")]
        self.assertEqual(self.told("9999p9999p9999p2770p", before)[:3], (0, False, 65536))
        self.assertEqual(self.told("9999p9999p9999p2771p", before)[:3], (1, False, 59996))

    def test_lines_without_bytes(self):
        before = [ed_text(""), ed_keys("yy")]
        self.assertEqual(self.told("9999p" * 6 + "5541p", before)[:3], (0, False, 65536))
        self.assertEqual(self.told("9999p" * 6 + "5542p", before)[:3], (1, False, 59995))
        self.assertEqual(self.told("9999p" * 6 + "5541p>G1Go" + ESC, before)[:3], (1, False, 65536))

    def test_a_bell_leaves_the_last_find_and_search(self):
        told = ask(*FULL, ed_keys("cfabcd" + ESC), ed_keys(";"), ed_keys("c/aa" + ENTER + "bc" + ESC), ed_keys("n"))
        self.assertEqual(told[2:], [[1], [1], [1], [1]])

    def test_a_bell_leaves_the_register(self):
        told = ask(*FULL, ed_keys("\"qyl"), ed_keys("\"q2sabc" + ESC), ed_keys("2dd\"qP"), WHERE, ed_keys("D"),
                   ed_get(16400))
        self.assertEqual(told[2:6], [[0], [1], [0], [0, 0, 0, 2, 0]])
        self.assertEqual(told[7], [16385, 10, 120] + [97] * 16382 + [10])

    def test_a_bell_leaves_the_last_change(self):
        told = ask(*FULL, ed_keys("3x"), ed_keys("ibcde" + ESC), ed_keys("."), ed_get(65530), ed_keys("u"), ed_get())
        self.assertEqual(told[2:5], [[0], [1], [0]])
        self.assertEqual([told[5][0], told[6], told[7][0]], [65530, [0], 65533])


if __name__ == "__main__":
    unittest.main()
