"""Names (point 4) and the written form of a sum (point 13)."""

import unittest

from helpers import doc_world, large_world, own_sums
from surelyseen.errors import BadText
from surelyseen.names import is_name
from surelyseen.written import read_sum, written_sum

RESERVED = ["all", "and", "or", "not", "some", "every", "row", "first", "from", "to", "at", "in"]


class NamesTest(unittest.TestCase):
    def test_names(self):
        for text in ("a", "z", "web", "web1", "a0z9", "abcdefghijkl", "a12345678901", "alls", "rows", "ina", "x"):
            self.assertIs(is_name(text), True, text)

    def test_no_names(self):
        wrong = ["", " ", "A", "Web", "wEb", "1web", "0", "we b", " web", "web ", "web\n", "\n", "we_b", "_", "web.0",
                 "we-b", "abcdefghijklm", "a" * 13, "a" * 100, "`", "{", "a`", "a{", "a/", "a:", "a@", "a["]
        for text in wrong:
            self.assertIs(is_name(text), False, text)

    def test_reserved_words(self):
        for text in RESERVED:
            self.assertIs(is_name(text), False, text)
            self.assertIs(is_name(text + "x"), True, text)

    def test_every_sign(self):
        for number in range(10, 127):
            sign = chr(number)
            small = "a" <= sign <= "z"
            self.assertIs(is_name(sign), small, sign)
            self.assertIs(is_name("q" + sign), small or "0" <= sign <= "9", sign)


class WrittenSumTest(unittest.TestCase):
    def test_written(self):
        self.assertEqual(written_sum(("web", 0, 3)), "web.0.3")
        self.assertEqual(written_sum(("all", 4, 15)), "all.4.15")

    def test_back_and_forth(self):
        for world in (doc_world(), large_world()):
            for asked in own_sums(world):
                self.assertEqual(read_sum(written_sum(asked)), asked)

    def test_read(self):
        self.assertEqual(read_sum("web.0.3"), ("web", 0, 3))
        self.assertEqual(read_sum("all.0.0"), ("all", 0, 0))
        self.assertEqual(read_sum("a.9999.9999"), ("a", 9999, 9999))
        self.assertEqual(read_sum("abcdefghijkl.10.1000"), ("abcdefghijkl", 10, 1000))
        self.assertIsInstance(read_sum("a.1.2"), tuple)

    def test_wrong_texts(self):
        wrong = ["", "web", "web.0", "web.0.3.0", "web.0.3.", ".web.0.3", "web..3", "web.0.", ".0.3", "..", "web.0.3\n",
                 " web.0.3", "web.0.3 ", "web. 0.3", "web.00.3", "web.01.3", "web.0.03", "web.0.00", "web.-1.3",
                 "web.+1.3", "web.0.-0", "web.10000.0", "web.0.10000", "web.0.00001", "Web.0.3", "web.0.x", "web.x.0",
                 "web.0x1.0", "web.0.1_0", "abcdefghijklm.0.0", "0.0.0", "web 0 3", "web,0,3", "web.0.3\nweb.0.3"]
        wrong += [word + ".0.0" for word in RESERVED if word != "all"]
        for text in wrong:
            with self.assertRaises(BadText) as caught:
                read_sum(text)
            self.assertEqual(caught.exception.text, text)


if __name__ == "__main__":
    unittest.main()
