"""[2] and [76]: NAMEs, lines and words."""

import unittest

from helping import TilesTest
from tilesregrow.texts import is_name, lines_of, words_of


class TextsTest(TilesTest):
    def test_names(self):
        for name in ("a", "z", "q9", "inc", "a1b2c3d4e5f6", "zzzzzzzzzzzz", "end"):
            self.assert_same(is_name(name), True)
        for name in ("", "1a", "A", "aB", "a b", " a", "a ", "a_b", "a\n", "a\t", "a" * 13, "a.b", "-a", "a-", "`a",
                     "{a", "a/", "a:", None, 1, ("a",), ["a"], b"a", True):
            self.assert_same(is_name(name), False)

    def test_lines(self):
        for text, lines in (("", []), ("\n", [""]), ("a", ["a"]), ("a\n", ["a"]), ("a\n\n", ["a", ""]),
                            ("\na b\n c", ["", "a b", " c"]), ("a\tb\n ", ["a\tb", " "])):
            self.assert_same(lines_of(text), lines)

    def test_words(self):
        for line, words in (("", [""]), (" ", ["", ""]), ("a", ["a"]), ("a b", ["a", "b"]), ("a  b", ["a", "", "b"]),
                            (" a ", ["", "a", ""]), ("a\tb c", ["a\tb", "c"])):
            self.assert_same(words_of(line), words)


if __name__ == "__main__":
    unittest.main()
