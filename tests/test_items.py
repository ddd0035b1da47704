"""Written items (point 47) and journals (point 48)."""

import unittest

from helpers import doc_world, draws, large_world, own_sums
from lines import changed, drawn_item, own_bad_line, own_reads
from surelyseen.errors import BadLine, BadText
from surelyseen.items import read_item, written_item
from surelyseen.journals import read_journal, written_journal

PAIRS = [
    (("count", "web", 3, 0, 9), "count web 3 0 9"),
    (("count", "abcdefghijkl", 999999999, 999999999, 0), "count abcdefghijkl 999999999 999999999 0"),
    (("close", "ok", 0, 17), "close ok 0 17"),
    (("total", ("all", 2, 0), 0, 999999999), "total all.2.0 0 999999999"),
    (("total", ("bad", 9999, 1000), 5, 4), "total bad.9999.1000 5 4"),
    (("row", "all", 1, 9999, "err"), "row all 1 9999 err"),
    (("row", "bad", 15, 0, "e2"), "row bad 15 0 e2"),
    (("rows", "all", 0, ()), "rows all 0"),
    (("rows", "bad", 12, (0,)), "rows bad 12 0"),
    (("rows", "g", 1, (0, 3, 6, 123456789)), "rows g 1 0 3 6 123456789"),
    (("rows", "g", 1, (7, 7, 1)), "rows g 1 7 7 1"),
]


class ItemsTest(unittest.TestCase):
    def check_wrong(self, line):
        with self.assertRaises(BadText) as caught:
            read_item(line)
        self.assertEqual(caught.exception.text, line)

    def test_both_ways(self):
        for item, line in PAIRS:
            self.assertEqual(written_item(item), line)
            self.assertEqual(read_item(line), item)
            self.assertIsInstance(read_item(line), tuple)

    def test_every_sum(self):
        for asked in own_sums(doc_world()) + own_sums(large_world()):
            item = ("total", asked, 0, 7)
            self.assertEqual(written_item(item), f"total {asked[0]}.{asked[1]}.{asked[2]} 0 7")
            self.assertEqual(read_item(written_item(item)), item)

    def test_200_numbers(self):
        item = ("rows", "all", 0, tuple(range(0, 10000, 50)))
        self.assertEqual(len(item[3]), 200)
        self.assertEqual(read_item(written_item(item)), item)

    def test_digits(self):
        for line in ("close a 999999999 1", "close a 0 123456789", "rows a 1 100000000", "total a.1000.9999 1 1"):
            self.assertEqual(written_item(read_item(line)), line)
        for line in ("close a 1000000000 1", "close a 0 1234567890", "rows a 1 1000000000", "rows a 0000000001",
                     "total a.10000.0 1 1", "total a.0.10000 1 1", "total a.0.0 1 1000000000", "row a 1 1000000000 b"):
            self.check_wrong(line)

    def test_leading_zeros_and_signs(self):
        for line in ("count a 0 0 00", "count a 00 0 1", "count a 0 01 1", "close a 0 -1", "close a +0 1", "close a 0 1.0",
                     "close a 0 1e3", "close a 0 0x1", "close a 0 1_0", "total a.00.0 1 1", "total a.0.01 1 1", "total a.0.0 01 1",
                     "row a 0 007 b", "rows a 0 00", "rows a 0 1 02 3", "rows a -0", "rows a 0 1 -2"):
            self.check_wrong(line)

    def test_names(self):
        for line in ("count all 0 0 1", "close all 0 1", "row all 0 0 all", "row a 0 0 all", "total A.0.0 0 1", "count Web 0 0 1",
                     "close abcdefghijklm 0 1", "row row 0 0 a", "rows some 0", "total from.0.0 0 1", "row a 0 0 in", "close 1a 0 1",
                     "close a_b 0 1", "count not 0 0 1", "row a 0 0 9"):
            self.check_wrong(line)
        for line in ("rows all 0", "row all 0 0 a", "total all.0.0 0 1", "count count 0 0 1", "close rows 0 1", "row total 0 0 alls"):
            self.assertEqual(written_item(read_item(line)), line)

    def test_parts(self):
        wrong = ["", " ", "count", "count a", "count a 0", "count a 0 0", "count a 0 0 1 1", "close a 0", "close a 0 1 2", "total a.0.0 0",
                 "total a.0.0 0 1 2", "total a 0 1", "row a 0 0", "row a 0 0 b b", "row a 0 b", "row a b 0 0", "rows", "rows a", "rows a b",
                 "rows a 0 b", "Count a 0 0 1", "counts a 0 0 1", "totals a.0.0 0 1", "take a 0 0 1", "count a 0 0 1 ", " count a 0 0 1",
                 "count  a 0 0 1", "count a 0  0 1", "rows a 0 ", "rows a  0", "rows a 0  1", "count a 0 0 1\n", "rows a 0\n", "\nrows a 0",
                 "rows a 0\n1", "count\ta 0 0 1", "count,a,0,0,1", "rows a 0 ,1", "close a 0 1\nclose a 0 1", "#", "# count a 0 0 1"]
        for line in wrong:
            self.check_wrong(line)

    def test_drawn_items(self):
        draw = draws(60)
        for _ in range(300):
            item = drawn_item(draw)
            line = written_item(item)
            self.assertTrue(own_reads(line), line)
            self.assertEqual(read_item(line), item)

    def test_one_change(self):
        draw = draws(61)
        verdicts = []
        for _ in range(4000):
            line = changed(draw, written_item(drawn_item(draw)), " .0019aaz#\n-Ax")
            verdicts.append(own_reads(line))
            if own_reads(line):
                self.assertEqual(written_item(read_item(line)), line)
            else:
                self.check_wrong(line)
        self.assertGreater(verdicts.count(True), 300)
        self.assertGreater(verdicts.count(False), 1000)


class JournalsTest(unittest.TestCase):
    def check_bad(self, text, number):
        with self.assertRaises(BadLine) as caught:
            read_journal(text)
        self.assertEqual(caught.exception.number, number, text)

    def test_both_ways(self):
        items = [item for item, _ in PAIRS]
        text = "".join(line + "\n" for _, line in PAIRS)
        self.assertEqual(written_journal(items), text)
        self.assertEqual(read_journal(text), items)
        self.assertEqual(written_journal([]), "")
        self.assertEqual(read_journal(""), [])
        self.assertEqual(written_journal(items[:1] * 2), "count web 3 0 9\ncount web 3 0 9\n")

    def test_skipped_lines(self):
        item = ("close", "a", 0, 1)
        for text in ("close a 0 1\n", "\nclose a 0 1\n", "close a 0 1\n\n", "\n\n#\n# x\nclose a 0 1\n#close b 0 1\n", "#\\ ~\nclose a 0 1\n"):
            self.assertEqual(read_journal(text), [item])
        for text in ("\n", "\n\n\n", "#\n", "# count\n\n##\n"):
            self.assertEqual(read_journal(text), [])

    def test_bad_lines(self):
        for text, number in (
            ("close a 0\n", 1), ("close a 0 1\n \n", 2), ("close a 0 1\n #\n", 2), ("\n\nx\n", 3), ("close a 0 1\nx\ny\n", 2),
            ("# a\n\nclose a 0 1\n\nclose a 0 01\nclose a 0 1\n", 5), (" close a 0 1\n", 1), ("close a 0 1 \n", 1),
        ):
            self.check_bad(text, number)

    def test_a_missing_last_newline(self):
        for text, number in (
            ("close a 0 1", 1), ("x", 1), ("#", 1), (" ", 1), ("close a 0 1\nclose a 0 1", 2), ("\n\n#", 3), ("close a 0 1\n# x", 2),
            ("x\nclose a 0 1", 1), ("close a 0 1\nx\n\nclose a 0 1", 2), ("close a 0 1\n\nx", 3),
        ):
            self.check_bad(text, number)

    def test_drawn_journals(self):
        draw = draws(62)
        bad = 0
        for _ in range(1500):
            items = [drawn_item(draw) for _ in range(draw.randint(0, 4))]
            text = written_journal(items)
            self.assertEqual(read_journal(text), items)
            text = changed(draw, text, "\n\n# 01ax")
            number = own_bad_line(text, own_reads)
            if number is None:
                lines = [line for line in text.split("\n") if line and line[0] != "#"]
                self.assertEqual(read_journal(text), [read_item(line) for line in lines])
            else:
                bad += 1
                self.check_bad(text, number)
        self.assertTrue(300 < bad < 1400)

    def test_large_journals(self):
        draw = draws(63)
        items = [drawn_item(draw) for _ in range(400)] + [("rows", "all", 0, tuple(range(200)))]
        text = written_journal(items)
        self.assertEqual(text.count("\n"), 401)
        self.assertEqual(read_journal(text), items)
        self.check_bad(text + "x\n", 402)
        self.check_bad(text + "close a 0 1", 402)

    def test_returned_lists_may_change(self):
        text = "close a 0 1\n"
        read_journal(text).clear()
        self.assertEqual(read_journal(text), [("close", "a", 0, 1)])
        items = [("close", "a", 0, 1)]
        written_journal(items)
        self.assertEqual(items, [("close", "a", 0, 1)])


if __name__ == "__main__":
    unittest.main()
