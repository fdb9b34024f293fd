"""Points 11 to 13: actions written as text and read back, and the first fault of a text that is no row of actions."""

import inspect
import unittest

from sameanswers import texts
from sameanswers.errors import OutOfRange, TextFault
from sameanswers.texts import read_actions, write_actions
from tests.samples import all_actions

WRITTEN = (
    (("read", "src/a"), "(read src/a)"),
    (("kind", "a/b/c"), "(kind a/b/c)"),
    (("kind", ""), "(kind .)"),
    (("list", "src"), "(list src)"),
    (("list", ""), "(list .)"),
    (("find", "", "y"), '(find . "y")'),
    (("find", "src", " a  b "), '(find src " a  b ")'),
    (("find", "a", "(read a)"), '(find a "(read a)")'),
    (("count", "12"), "(count 12)"),
    (("count", ""), "(count .)"),
    (("write", "a", ()), "(write a [])"),
    (("write", "a/b", ("",)), '(write a/b [""])'),
    (("write", "a", ("x", "", " y ", "[z]")), '(write a ["x" "" " y " "[z]"])'),
    (("remove", "a/b"), "(remove a/b)"),
    (("move", "a/b", "c"), "(move a/b c)"),
    (("splice", "src/a", ("y",), ("z", "z")), '(splice src/a ["y"] ["z" "z"])'),
    (("splice", "read", ("",), ()), '(splice read [""] [])'),
)
PARTED = (
    (("read", "src/a"), "( read src/a )"),
    (("kind", ""), "( kind . )"),
    (("list", "a/b/c"), "( list a/b/c )"),
    (("find", "", "y"), '( find . "y" )'),
    (("count", ""), "( count . )"),
    (("write", "a", ()), "( write a [ ] )"),
    (("write", "a", ("x", "", "y")), '( write a [ "x" "" "y" ] )'),
    (("remove", "a"), "( remove a )"),
    (("move", "a", "b/c"), "( move a b/c )"),
    (("splice", "a", ("y",), ("z", "z")), '( splice a [ "y" ] [ "z" "z" ] )'),
    (("splice", "a", ("y", "x"), ()), '( splice a [ "y" "x" ] [ ] )'),
)
# Each row: the tokens of an action, and at each token what is expected where another one stands.
EXPECTED = (
    ("( read src/a )", "(", "an action", "a path", ")"),
    ("( kind . )", "(", "an action", "a place", ")"),
    ("( list src )", "(", "an action", "a place", ")"),
    ('( find . "y" )', "(", "an action", "a place", "a word", ")"),
    ("( count a )", "(", "an action", "a place", ")"),
    ("( write a [ ] )", "(", "an action", "a path", "[", "a line", ")"),
    ('( write a [ "x" ] )', "(", "an action", "a path", "[", "a line", "a line", ")"),
    ('( write a [ "x" "" ] )', "(", "an action", "a path", "[", "a line", "a line", "a line", ")"),
    ("( remove a )", "(", "an action", "a path", ")"),
    ("( move a b )", "(", "an action", "a path", "a path", ")"),
    ('( splice a [ "y" ] [ ] )', "(", "an action", "a path", "[", "a line", "a line", "[", "a line", ")"),
    ('( splice a [ "" ] [ "z" ] )', "(", "an action", "a path", "[", "a line", "a line", "[", "a line", "a line", ")"),
)
# No token of these can stand where the key is expected.
WRONG = {
    "(": (")", "[", "]", "read", '"read"', ".", '""'),
    "an action": ("(", ")", "[", "]", "reads", "READ", ".", '"read"', "rea", "write/a"),
    "a path": ("(", ")", "[", "]", ".", '"a"', '""', "A", "a/", "/a", "a/b/c/d", "abcdefghi", "a.b", "./a"),
    "a place": ("(", ")", "[", "]", "..", '"a"', '""', '"."', "A", "a/", "./a", "a/b/c/d", "abcdefghi", "/"),
    "a word": ("(", ")", "[", "]", ".", "y", '""', '"' + "w" * 13 + '"'),
    "[": ("(", ")", "]", "a", '"x"', '""'),
    "a line": ("(", ")", "[", "a", ".", '"' + "l" * 21 + '"'),
    ")": ("(", "[", "]", "a", ".", '"x"', '""'),
}
LINES_12 = " ".join([f'"{k}"' for k in range(12)])


class TextCase(unittest.TestCase):
    def check_fault(self, text, line, column, words):
        with self.subTest(text=text):
            with self.assertRaises(TextFault) as held:
                read_actions(text)
            fault = held.exception
            self.assertEqual((fault.line, fault.column, fault.words), (line, column, words))

    def check_read(self, text, *actions):
        with self.subTest(text=text):
            self.assertEqual(read_actions(text), actions)


class Writing(TextCase):
    def test_each_kind_sign_by_sign(self):
        for action, text in WRITTEN:
            with self.subTest(text=text):
                self.assertEqual(write_actions((action,)), text + "\n")

    def test_each_action_in_a_line_of_its_own(self):
        actions = tuple([action for action, _ in WRITTEN])
        self.assertEqual(write_actions(actions), "".join([text + "\n" for _, text in WRITTEN]))
        self.assertEqual(write_actions((("read", "a"), ("read", "a"))), "(read a)\n(read a)\n")

    def test_no_actions(self):
        self.assertEqual(write_actions(()), "")


class Reading(TextCase):
    def test_what_was_written(self):
        for action, text in WRITTEN:
            self.check_read(text + "\n", action)
        actions = tuple([action for action, _ in WRITTEN])
        self.check_read(write_actions(actions), *actions)
        made = all_actions()
        for at in range(0, len(made), 40):
            self.check_read(write_actions(tuple(made[at : at + 40])), *made[at : at + 40])

    def test_the_kinds_of_what_is_read(self):
        told = read_actions('(write a ["x"])\n(splice a ["x"] [])\n')
        self.assertIs(type(told), tuple)
        for action in told:
            self.assertIs(type(action), tuple)
            for item in action[2:]:
                self.assertIs(type(item), tuple)

    def test_no_actions(self):
        for text in ("", " ", "\n", " \n\n  \n "):
            self.check_read(text)

    def test_blanks_and_newlines_wherever_tokens_may_be_parted(self):
        for action, tokens in PARTED:
            for blank in (" ", "  ", "\n", " \n ", "\n\n\n"):
                text = tokens.replace(" ", blank)
                self.check_read(text, action)
                self.check_read(blank + text + blank, action)
                self.check_read(text + text, action, action)

    def test_blanks_only_where_tokens_would_run_together(self):
        self.check_read("(read a)(kind .)(read b)", ("read", "a"), ("kind", ""), ("read", "b"))
        self.check_read('(find ."y")', ("find", "", "y"))
        self.check_read('(write a["x""y"])', ("write", "a", ("x", "y")))
        self.check_read('(splice a["x"][])(read b)', ("splice", "a", ("x",), ()), ("read", "b"))

    def test_the_root_is_a_dot_and_a_dot_no_path(self):
        self.check_read("(list .)", ("list", ""))
        self.check_fault("(read .)", 1, 7, "expected a path")
        self.check_fault("(move a .)", 1, 9, "expected a path")

    def test_quoted_text_keeps_each_sign(self):
        line = " ()[] . /~!"
        self.check_read(f'(write a ["{line}"])', ("write", "a", (line,)))
        self.check_read('(find a " [(")', ("find", "a", " [("))

    def test_paths_like_the_words_of_actions(self):
        self.check_read("(read read)(move list write)", ("read", "read"), ("move", "list", "write"))

    def test_each_sign_of_names_and_of_lines(self):
        for sign in "abcdefghijklmnopqrstuvwxyz0123456789":
            path = f"{sign}x{sign}/{sign}"
            self.check_read(f"(move {sign} {path})", ("move", sign, path))
        for code in range(32, 127):
            sign = chr(code)
            if sign not in '"%':
                self.check_read(f'(find . "{sign}a{sign}")', ("find", "", f"{sign}a{sign}"))
                self.check_read(f'(write a ["{sign}"])', ("write", "a", (sign,)))

    def test_lines_and_words_just_within_their_bounds(self):
        self.check_read('(write a ["' + "l" * 20 + '"])', ("write", "a", ("l" * 20,)))
        self.check_read('(splice a ["' + "l" * 20 + '"] [])', ("splice", "a", ("l" * 20,), ()))
        self.check_read('(find a "' + "w" * 12 + '")', ("find", "a", "w" * 12))
        self.check_read('(find a "w")', ("find", "a", "w"))


class Faults(TextCase):
    def check_words(self, before, words):
        """Where the text goes on with a token that cannot stand there, and where it ends."""
        expected = f"expected {words}"
        for wrong in WRONG[words]:
            self.check_fault(f"{before} {wrong}", 1, len(before) + 2, expected)
            self.check_fault(f"{before} {wrong} )", 1, len(before) + 2, expected)
            self.check_fault(f"{before}\n\n  {wrong} \n(read", 3, 3, expected)
        if words != "(":
            self.check_fault(before, 1, len(before) + 1, expected)
            self.check_fault(f"{before}  ", 1, len(before) + 3, expected)
            self.check_fault(f"{before}\n", 2, 1, expected)
            self.check_fault(f"{before} \n\n ", 3, 2, expected)

    def test_at_each_token_of_each_kind(self):
        for row in EXPECTED:
            tokens = row[0].split(" ")
            self.assertEqual(len(tokens), len(row) - 1)
            for at, words in enumerate(row[1:]):
                self.check_words(" ".join(["(read a)", *tokens[:at]]), words)

    def test_at_each_first_token(self):
        for wrong in WRONG["("]:
            self.check_fault(wrong, 1, 1, "expected (")
            self.check_fault(f"\n {wrong}", 2, 2, "expected (")
            self.check_fault(f"(read a)\n{wrong}\n", 2, 1, "expected (")
            self.check_fault(f"(read a){wrong}", 1, 9, "expected (")

    def test_a_bracket_may_end_lines_only_where_no_line_is_needed(self):
        self.check_read("(write a [])", ("write", "a", ()))
        self.check_fault('(splice a [] ["x"])', 1, 12, "expected a line")
        self.check_fault('(splice a\n[ ] ["x"])', 2, 3, "expected a line")
        self.check_read('(splice a ["x"] [])', ("splice", "a", ("x",), ()))

    def test_the_first_fault_is_told(self):
        self.check_fault("(read A) (kind B) )", 1, 7, "expected a path")
        self.check_fault('(find / "")', 1, 7, "expected a place")
        self.check_fault("(reed a) )", 1, 2, "expected an action")
        self.check_fault("(read a b) (", 1, 9, "expected )")

    def test_words_run_on_to_the_next_sign_that_ends_them(self):
        self.check_fault("(read a'b)", 1, 7, "expected a path")
        self.check_fault("(read;a)", 1, 2, "expected an action")
        self.check_fault("(read a;b c)", 1, 7, "expected a path")
        self.check_fault('(read"a")', 1, 6, "expected a path")
        self.check_fault('(find."y")', 1, 2, "expected an action")
        self.check_fault("(read(a))", 1, 6, "expected a path")
        self.check_fault("(read a[)", 1, 8, "expected )")
        self.check_fault("(reada)", 1, 2, "expected an action")
        self.check_fault('(find a y"z")', 1, 9, "expected a word")
        self.check_fault('(find a "z"y)', 1, 12, "expected )")

    def test_columns_start_anew_in_each_line(self):
        self.check_fault("(read\na\nb)", 3, 1, "expected )")
        self.check_fault("(read a)\n   (read a)\n     (kind A)", 3, 12, "expected a place")
        self.check_fault('(find\n . "' + "w" * 13 + '")', 2, 4, "expected a word")

    def test_lengths_just_out_of_their_bounds(self):
        self.check_fault('(write a ["' + "l" * 21 + '"])', 1, 11, "expected a line")
        self.check_fault('(write a ["x" "' + "l" * 21 + '"])', 1, 15, "expected a line")
        self.check_fault('(find a "' + "w" * 13 + '")', 1, 9, "expected a word")
        self.check_fault('(find a "")', 1, 9, "expected a word")
        self.check_fault("(read abcdefghi)", 1, 7, "expected a path")
        self.check_fault("(kind a/b/c/d)", 1, 7, "expected a place")


class Lines(TextCase):
    def test_12_lines(self):
        lines = tuple([str(k) for k in range(12)])
        self.check_read(f"(write a [{LINES_12}])", ("write", "a", lines))
        self.check_read(f"(splice a [{LINES_12}] [{LINES_12}])", ("splice", "a", lines, lines))

    def test_13_lines(self):
        at = len(f"(write a [{LINES_12} ") + 1
        for more in ('"x"])', '""])', '"x"', '"x" "y"])', '"' + "l" * 20 + '"])', '"x" ('):
            self.check_fault(f"(write a [{LINES_12} {more}", 1, at, "too many lines")
        self.check_fault(f"(write a [{LINES_12}\n\n   \"x\"])", 3, 4, "too many lines")

    def test_13_lines_of_a_splice(self):
        at = len(f"(splice a [{LINES_12} ") + 1
        self.check_fault(f'(splice a [{LINES_12} "x"] [])', 1, at, "too many lines")
        at = len(f'(splice a ["x"] [{LINES_12} ') + 1
        self.check_fault(f'(splice a ["x"] [{LINES_12} "x"])', 1, at, "too many lines")

    def test_what_stands_behind_12_lines_and_is_no_line(self):
        text = f"(write a [{LINES_12} "
        for wrong in WRONG["a line"]:
            self.check_fault(text + wrong, 1, len(text) + 1, "expected a line")
        self.check_fault(text, 1, len(text) + 1, "expected a line")
        self.check_fault(text + "\n", 2, 1, "expected a line")


class NotClosed(TextCase):
    def test_at_the_end_of_the_text(self):
        self.check_fault('"', 1, 2, "text is not closed")
        self.check_fault('(find a "xy', 1, 12, "text is not closed")
        self.check_fault('(find a "xy)  ', 1, 15, "text is not closed")
        self.check_fault('(read a)\n(find a "', 2, 10, "text is not closed")

    def test_at_the_newline(self):
        self.check_fault('"\n', 1, 2, "text is not closed")
        self.check_fault('(find a "xy\n")', 1, 12, "text is not closed")
        self.check_fault('(read a)\n(find a "xy)  \n(read b)\n', 2, 15, "text is not closed")

    def test_a_quote_too_much(self):
        self.check_fault('(find a "x"")', 1, 14, "text is not closed")
        self.check_fault('(find a "x""")', 1, 12, "expected )")
        self.check_fault('(write a ["x" "y""])', 1, 21, "text is not closed")

    def test_it_comes_before_all_other_faults(self):
        self.check_fault(') (read A)\n(find a "x', 2, 11, "text is not closed")
        self.check_fault('read\n\n"', 3, 2, "text is not closed")
        row = f'(write a [{LINES_12} "13"]) "'
        self.check_fault(row + "\n)", 1, len(row) + 1, "text is not closed")
        self.check_fault('(read /) "' + "x" * 30, 1, 41, "text is not closed")

    def test_the_first_of_several(self):
        self.check_fault('(find a "x\n(find a "x', 1, 11, "text is not closed")


class Sizes(TextCase):
    def check_too_long(self, text):
        with self.assertRaises(OutOfRange) as held:
            read_actions(text)
        self.assertEqual(held.exception.name, "text")

    def test_the_number(self):
        self.assertEqual(texts.TEXT_MOST, 8000)

    def test_8000_characters(self):
        self.check_read("(read a)" + " " * 7992, ("read", "a"))
        self.check_read("(read a)" * 1000, *[("read", "a")] * 1000)
        self.check_fault("\n" * 7999 + ")", 8000, 1, "expected (")
        self.check_fault(" " * 7999 + '"', 1, 8001, "text is not closed")

    def test_8001_characters(self):
        self.check_too_long("(read a)" + " " * 7993)
        self.check_too_long("(read a)" * 1000 + "\n")
        self.check_too_long("\n" * 8001)
        self.check_too_long("(read a)" * 2000)

    def test_the_size_comes_before_the_faults(self):
        self.check_too_long(")" * 8001)
        self.check_too_long('"' * 8001)


class Interface(unittest.TestCase):
    def test_the_functions_stand_in_their_file(self):
        for name, parameters in (("write_actions", ["actions"]), ("read_actions", ["text"])):
            with self.subTest(name=name):
                made = getattr(texts, name)
                self.assertEqual(made.__module__, "sameanswers.texts")
                self.assertEqual(list(inspect.signature(made).parameters), parameters)


if __name__ == "__main__":
    unittest.main()
