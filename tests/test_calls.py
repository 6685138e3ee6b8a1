import unittest

from fewkeys.editor import answers
from tests.helper import BEGIN, ENTER, ESC, WHERE, Case, ask, as_text, ed_get, ed_keys, ed_text, numbers


class TheList(unittest.TestCase):
    def test_answers_stand_behind_their_number(self):
        calls = [0, 1, 3, 97, 98, 10, 2, 1, 120, 3, 10, 4]
        self.assertEqual(answers(calls), [1, 0, 1, 0, 1, 0, 3, 2, 98, 10, 5, 0, 0, 0, 1, 0])

    def test_a_refusal_is_its_number_alone(self):
        self.assertEqual(answers([0, 3, 0, 3, 65537]), [1, 0, 1, -2, 1, -1])

    def test_the_first_call_alone(self):
        self.assertEqual(answers([0]), [1, 0])

    def test_what_is_handed_in_stays(self):
        calls = BEGIN + ed_text("one two\nthree\n") + ed_keys("dwyyPiab" + ESC + "J.u3") + ed_get() + WHERE
        kept = list(calls)
        first = answers(calls)
        self.assertEqual(calls, kept)
        self.assertEqual(answers(calls), first)
        self.assertEqual(calls, kept)

    def test_nothing_is_kept_from_one_time_to_the_next(self):
        fill = BEGIN + ed_text("ab ab\n") + ed_keys("yyma/ab" + ENTER + "fbx\"") + WHERE
        bare = BEGIN + ed_keys("p.u;n'a") + ed_get() + WHERE
        alone = answers(bare)
        answers(fill)
        self.assertEqual(answers(bare), alone)

    def test_all_answers_are_whole_numbers(self):
        told = answers(BEGIN + ed_text("a\n\tb\n") + ed_keys("jJqx3") + ed_get() + WHERE)
        self.assertEqual({int}, {type(number) for number in told})

    def test_an_answer_is_a_list_of_its_own(self):
        calls = BEGIN + ed_text("ab") + ed_get()
        first = answers(calls)
        first.clear()
        self.assertEqual(answers(calls), [1, 0, 1, 0, 4, 3, 97, 98, 10])


class Begin(unittest.TestCase):
    def test_one_line_without_bytes(self):
        self.assertEqual(ask(ed_get(), WHERE), [[1, 10], [0, 0, 0, 1, 0]])

    def test_begins_anew(self):
        told = ask(ed_text("a\nb\n"), ed_keys("jx2d"), BEGIN, ed_get(), WHERE)
        self.assertEqual(told[2:], [[0], [1, 10], [0, 0, 0, 1, 0]])

    def test_holds_nothing_else(self):
        self.assert_nothing_held(BEGIN)

    def test_a_text_holds_nothing_else_either(self):
        self.assert_nothing_held(ed_text("ab ab\n"))

    def assert_nothing_held(self, call):
        fill = [ed_text("ab ab\nab\n"), ed_keys("\"ayyma/ab" + ENTER + "0fbx")]
        for keys in ("p", "\"ap", "P", "u", ".", ";", ",", "n", "N", "/" + ENTER, "?" + ENTER, "'a", "`a"):
            with self.subTest(keys=keys):
                told = ask(*fill, call, ed_get(), ed_keys(keys), ed_get(), WHERE)
                self.assertEqual(told[1], [0])
                self.assertEqual(told[4], [1])
                self.assertEqual(told[5], told[3])
                self.assertEqual(told[6], [0, 0, 0, 1, 0])


class Text(unittest.TestCase):
    def test_lines(self):
        for text, lines in (
            ("", 1), ("\n", 1), ("\n\n", 2), ("a", 1), ("a\n", 1), ("a\nb", 2), ("a\nb\n", 2), ("a\n\n", 2),
            ("\na", 2), (" \t\n", 1),
        ):
            with self.subTest(text=text):
                told = ask(ed_text(text), ed_get(), WHERE)
                self.assertEqual(told[0], [0])
                self.assertEqual(as_text(told[1]), text if text.endswith("\n") else text + "\n")
                self.assertEqual(told[2], [0, 0, 0, lines, 0])

    def test_every_byte(self):
        given = [byte for byte in range(256) if byte != 10]
        self.assertEqual(ask([1, 255] + given, ed_get())[1], [256] + given + [10])

    def test_takes_the_place_of_the_text_before(self):
        told = ask(ed_text("a\nb\nc\n"), ed_keys("Gi12"), ed_text("xy\n"), ed_get(), WHERE)
        self.assertEqual(told[2:], [[0], [3, 120, 121, 10], [0, 0, 0, 1, 0]])

    def test_the_longest(self):
        told = ask(ed_text("a" * 29000), ed_get(29001), ed_get(29000))
        self.assertEqual(told, [[0], [29001] + [97] * 29000 + [10], [-2]])

    def test_too_long_is_refused_and_all_stays(self):
        told = ask(ed_text("ab"), ed_keys("l2"), ed_text("a" * 65536), ed_get(), WHERE)
        self.assertEqual(told[2:], [[-1], [3, 97, 98, 10], [0, 0, 1, 1, 1]])
        told = ask(ed_text("a" * 65535), ed_get())
        self.assertEqual([told[0], told[1][0]], [[0], 65536])


class Keys(unittest.TestCase):
    def test_how_many_bells(self):
        self.assertEqual(ask(ed_text("abc"), ed_keys(""), ed_keys("l"), ed_keys("hhlq"))[1:], [[0], [0], [2]])

    def test_too_many_are_refused_and_all_stays(self):
        told = ask(ed_text("ab"), ed_keys("l2"), ed_keys("h" * 65537), ed_get(), WHERE)
        self.assertEqual(told[2:], [[-1], [3, 97, 98, 10], [0, 0, 1, 1, 1]])
        self.assertEqual(ask(ed_keys("h" * 65536)), [[65536]])

    def test_the_most_that_can_be_handed_in(self):
        self.assertEqual(ask(ed_text("ab"), ed_keys("lh" * 14500), WHERE), [[0], [0], [0, 0, 0, 1, 0]])


class Get(unittest.TestCase):
    def test_bounds_of_most(self):
        text = ed_text("ab\nc\n")
        self.assertEqual(ask(text, ed_get(5))[1], [5] + numbers("ab\nc\n"))
        self.assertEqual(ask(text, ed_get(65536))[1], [5] + numbers("ab\nc\n"))
        self.assertEqual(ask(text, ed_get(4))[1], [-2])
        self.assertEqual(ask(text, ed_get(0))[1], [-2])
        self.assertEqual(ask(text, ed_get(65537))[1], [-1])
        self.assertEqual(ask(text, ed_get(4294967295))[1], [-1])

    def test_changes_nothing(self):
        told = ask(ed_text("ab\n"), ed_keys("l3"), ed_get(), ed_get(2), ed_get(70000), WHERE)
        self.assertEqual(told[-1], [0, 0, 1, 1, 1])

    def test_the_whole_of_65536(self):
        told = ask(ed_text("a" * 16383), ed_keys("yy3p"), ed_get(65535), ed_get(65536))
        self.assertEqual(told[1:3], [[0], [-2]])
        self.assertEqual(told[3], [65536] + ([97] * 16383 + [10]) * 4)


class Where(Case):
    def test_line_column_lines_keys(self):
        told = ask(ed_text("ab\ncde\nf\n"), WHERE, ed_keys("jll"), WHERE, ed_keys("\"a12d34f"), WHERE)
        self.assertEqual(told[1], [0, 0, 0, 3, 0])
        self.assertEqual(told[3], [0, 1, 2, 3, 0])
        self.assertEqual(told[5], [0, 1, 2, 3, 8])

    def test_a_line_without_bytes_has_column_0(self):
        self.assertEqual(ask(ed_text("ab\n\n"), ed_keys("lj"), WHERE)[2], [0, 1, 0, 2, 0])


if __name__ == "__main__":
    unittest.main()
