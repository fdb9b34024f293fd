"""Points 4 and 5: names, paths, places, lines, words, rows of lines, and what lies inside what."""

import inspect
import itertools
import re
import unittest

from sameanswers import paths
from sameanswers.paths import is_inside, is_line, is_lines, is_name, is_path, is_place, is_word

# The points once more, said in another way than the program says them.
NAME = "[a-z0-9]{1,8}"
SIGN = "[ !#$&-~]"
SAID = {
    is_name: NAME,
    is_path: NAME + "(/" + NAME + "){0,2}",
    is_place: "(" + NAME + "(/" + NAME + "){0,2})?",
    is_line: SIGN + "{0,20}",
    is_word: SIGN + "{1,12}",
}
NO_NAME_SIGNS = (" ", "/", ":", "`", "{", "A", "Z", "_", "-", ".", '"', "%", "~", "\n", "\t", "\x7f", "\xe9", "\u0663")
NO_LINE_SIGNS = ('"', "%", "\n", "\t", "\r", "\0", "\x1f", "\x7f", "\xa0", "\xe9", "\u20ac")


def is_said(test, text):
    return re.fullmatch(SAID[test], text) is not None


class SameAsSaid(unittest.TestCase):
    def check(self, text):
        for test in SAID:
            told = test(text)
            if told is not is_said(test, text):
                self.fail(f"{test.__name__}({text!r}) is {told!r}")

    def test_all_short_texts_of_some_signs(self):
        for many in range(5):
            for signs in itertools.product('aZ9 ."/%\n', repeat=many):
                self.check("".join(signs))

    def test_every_sign_alone_and_within_names(self):
        for code in range(0x180):
            for text in ("{}", "a{}", "{}a", "ab{}cd", "a/b{}", "{}/a"):
                self.check(text.format(chr(code)))

    def test_texts_of_0_to_21_signs(self):
        for many in range(22):
            for row in ("a", "0", "a ", "a.", 'a"', "aB", "B", " ", ".", "~", "a/", "ab/", "abcd/", "abcdefg/"):
                self.check((row * 21)[:many])

    def test_one_other_sign_anywhere_in_texts_of_1_to_21_signs(self):
        for many in range(1, 22):
            for at in range(many):
                for sign in ' ."Z%/\n':
                    self.check("a" * at + sign + "a" * (many - at - 1))

    def test_rows_of_names_of_all_lengths_up_to_9(self):
        for many in range(1, 5):
            for lengths in itertools.product((0, 1, 7, 8, 9), repeat=many):
                self.check("/".join(["n" * length for length in lengths]))


class Names(unittest.TestCase):
    def test_the_numbers(self):
        told = (paths.NAME_MOST, paths.DEPTH_MOST, paths.LINE_MOST, paths.LINES_MOST, paths.WORD_MOST)
        self.assertEqual(told, (8, 3, 20, 12, 12))

    def test_names_have_1_to_8_characters(self):
        for many in range(12):
            with self.subTest(many=many):
                self.assertIs(is_name("k" * many), 1 <= many <= 8)

    def test_names_have_letters_and_digits_only(self):
        self.assertIs(is_name("abcdefgh"), True)
        self.assertIs(is_name("ijklmnop"), True)
        self.assertIs(is_name("qrstuvwx"), True)
        self.assertIs(is_name("yz012345"), True)
        self.assertIs(is_name("6789"), True)
        for sign in NO_NAME_SIGNS:
            for text in (sign, sign + "ab", "a" + sign + "b", "ab" + sign):
                with self.subTest(text=text):
                    self.assertIs(is_name(text), False)


class Paths(unittest.TestCase):
    def test_paths_have_1_to_3_names(self):
        for many in range(1, 6):
            with self.subTest(many=many):
                self.assertIs(is_path("/".join(["ab1"] * many)), many <= 3)

    def test_the_longest_path(self):
        self.assertIs(is_path("abcdefgh/12345678/zzzzzzzz"), True)
        for path in ("abcdefghi/b/c", "a/abcdefghi/c", "a/b/abcdefghi"):
            with self.subTest(path=path):
                self.assertIs(is_path(path), False)

    def test_no_name_is_empty(self):
        for path in ("", "/", "//", "/a", "a/", "a//b", "/a/b", "a/b/", "a/b//", "//a", "a/b/c/", "/a/b/c"):
            with self.subTest(path=path):
                self.assertIs(is_path(path), False)

    def test_each_name_has_letters_and_digits_only(self):
        for sign in NO_NAME_SIGNS:
            if sign != "/":
                for path in ("x" + sign + "/b/c", "a/" + sign + "x/c", "a/b/x" + sign, sign + "/b"):
                    with self.subTest(path=path):
                        self.assertIs(is_path(path), False)

    def test_the_root_is_a_place_and_no_path(self):
        self.assertIs(is_place(""), True)
        self.assertIs(is_path(""), False)
        self.assertIs(is_name(""), False)

    def test_every_path_is_a_place(self):
        for path in ("a", "a/b", "a/b/c", "0/1/2", "abcdefgh/abcdefgh/abcdefgh"):
            with self.subTest(path=path):
                self.assertIs(is_path(path), True)
                self.assertIs(is_place(path), True)

    def test_nothing_else_is_a_place(self):
        for place in (".", "/", " ", "a/", "/a", "a//b", "a/b/c/d", "abcdefghi", "A", "a b", "\n"):
            with self.subTest(place=place):
                self.assertIs(is_place(place), False)


class Lines(unittest.TestCase):
    def test_lines_have_at_most_20_characters(self):
        for many in (0, 1, 12, 13, 19, 20, 21, 40):
            for sign in "aZ .~!":
                with self.subTest(many=many, sign=sign):
                    self.assertIs(is_line(sign * many), many <= 20)

    def test_words_have_1_to_12_characters(self):
        for many in (0, 1, 2, 11, 12, 13, 20):
            for sign in "aZ .~!":
                with self.subTest(many=many, sign=sign):
                    self.assertIs(is_word(sign * many), 1 <= many <= 12)

    def test_the_signs_of_lines_and_words(self):
        for code in range(32, 127):
            with self.subTest(code=code):
                self.assertIs(is_line(chr(code)), code not in (34, 37))
                self.assertIs(is_word(chr(code)), code not in (34, 37))

    def test_signs_that_may_not_stand_anywhere_in_a_line(self):
        for sign in NO_LINE_SIGNS:
            for text in (sign, sign + "a b", "a" + sign + "b", "a b" + sign, "x" * 11 + sign, "x" * 19 + sign):
                with self.subTest(text=text):
                    self.assertIs(is_line(text), False)
                    self.assertIs(is_word(text), False)

    def test_rows_have_at_most_12_lines(self):
        for many in (0, 1, 10, 11, 12, 13, 14, 30):
            for line in ("", "a line", "x" * 20):
                with self.subTest(many=many, line=line):
                    self.assertIs(is_lines((line,) * many), many <= 12)

    def test_each_item_of_a_row_is_a_line(self):
        for bad in ("x" * 21, 'say "y"', "100%", "a\nb"):
            for at in (0, 5, 11):
                with self.subTest(bad=bad, at=at):
                    self.assertIs(is_lines(("ok",) * at + (bad,) + ("ok",) * (11 - at)), False)
            self.assertIs(is_lines((bad,)), False)


class Inside(unittest.TestCase):
    def test_every_path_lies_inside_the_root(self):
        for path in ("a", "a/b", "a/b/c"):
            with self.subTest(path=path):
                self.assertIs(is_inside(path, ""), True)

    def test_paths_that_go_on_behind_the_place(self):
        for path, place in (("a/b", "a"), ("a/b/c", "a"), ("a/b/c", "a/b"), ("ab/c", "ab"), ("0/1", "0")):
            with self.subTest(path=path, place=place):
                self.assertIs(is_inside(path, place), True)

    def test_no_path_lies_inside_itself_or_behind_itself(self):
        for path, place in (("a", "a"), ("a/b", "a/b"), ("a/b/c", "a/b/c"), ("a", "a/b"), ("a/b", "a/b/c")):
            with self.subTest(path=path, place=place):
                self.assertIs(is_inside(path, place), False)

    def test_neighbours_whose_names_begin_alike(self):
        for path, place in (("ab/c", "a"), ("ab", "a"), ("a/bc", "a/b"), ("a/b", "ab"), ("a/b/c", "a/bc"), ("a", "ab")):
            with self.subTest(path=path, place=place):
                self.assertIs(is_inside(path, place), False)

    def test_a_place_within_the_path_but_not_at_its_beginning(self):
        for path, place in (("b/a", "a"), ("b/a/c", "a"), ("b/a/c", "a/c"), ("c/b", "b")):
            with self.subTest(path=path, place=place):
                self.assertIs(is_inside(path, place), False)

    def test_all_pairs_name_by_name(self):
        names = ("a", "b", "ab")
        rows = [row for many in (1, 2, 3) for row in itertools.product(names, repeat=many)]
        for row in rows:
            for outer in [()] + rows:
                told = is_inside("/".join(row), "/".join(outer))
                self.assertIs(told, len(outer) < len(row) and row[: len(outer)] == outer)


class Interface(unittest.TestCase):
    def test_the_functions_stand_in_their_file(self):
        listed = {"is_name": ["text"], "is_path": ["text"], "is_place": ["text"], "is_line": ["text"]}
        listed.update({"is_word": ["text"], "is_lines": ["lines"], "is_inside": ["path", "place"]})
        for name, parameters in listed.items():
            with self.subTest(name=name):
                made = getattr(paths, name)
                self.assertEqual(made.__module__, "sameanswers.paths")
                self.assertEqual(list(inspect.signature(made).parameters), parameters)


if __name__ == "__main__":
    unittest.main()
