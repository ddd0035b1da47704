"""Written deeds and books (point 104)."""

import unittest

from asking import drawn_question
from desking import roughly_written
from helpers import doc_world, draws, own_sums
from lines import changed, drawn_item, own_bad_line, own_reads_deed
from surelyseen.books import read_book, read_deed, written_book, written_deed
from surelyseen.desk import Desk, replay
from surelyseen.errors import BadLine, BadText
from surelyseen.items import read_item
from surelyseen.reading import read_question, written_question
from surelyseen.setups import Setup

PAIRS = [
    (("take", ("count", "web", 3, 0, 9)), "take count web 3 0 9"),
    (("take", ("rows", "all", 0, ())), "take rows all 0"),
    (("take", ("total", ("all", 2, 0), 0, 999999999)), "take total all.2.0 0 999999999"),
    (("watch", "w1", "ok.0.0 >= 4"), "watch w1 ok.0.0 >= 4"),
    (("watch", "watch", "not (a.0.0 = 1 or a.0.1 = 1)"), "watch watch not (a.0.0 = 1 or a.0.1 = 1)"),
    (("promise", ("all", 9999, 0)), "promise all.9999.0"),
    (("forget", ()), "forget"),
    (("forget", (("ok", 0, 0),)), "forget ok.0.0"),
    (("forget", (("b", 0, 1), ("a", 2, 0), ("b", 0, 1))), "forget b.0.1 a.2.0 b.0.1"),
]
SUMS = [("a", 0, 0), ("all", 1, 15), ("forget", 9999, 1000), ("abcdefghijkl", 0, 7)]


def drawn_deed(draw):
    word = draw.choice(["take", "watch", "promise", "forget"])
    if word == "take":
        return (word, drawn_item(draw))
    if word == "watch":
        return (word, draw.choice(["a", "w9", "watch", "abcdefghijkl"]), written_question(drawn_question(draw, doc_world(), draw.randint(1, 5))))
    if word == "promise":
        return (word, draw.choice(SUMS))
    return (word, tuple(draw.choices(SUMS, k=draw.randint(0, 4))))


class DeedsTest(unittest.TestCase):
    def check_wrong(self, line):
        with self.assertRaises(BadText) as caught:
            read_deed(line)
        self.assertEqual(caught.exception.text, line)

    def test_both_ways(self):
        for deed, line in PAIRS:
            self.assertEqual(written_deed(deed), line)
            self.assertEqual(read_deed(line), deed)

    def test_questions_in_other_words(self):
        for line, text in (
            ("watch w (a.0.0 = 1)", "a.0.0 = 1"), ("watch w a.0.0   =  1", "a.0.0 = 1"), ("watch w a.0.0 = 1  ", "a.0.0 = 1"), ("watch w ( a.0.0 = 1)or(a.0.1 = 1 )", "a.0.0 = 1 or a.0.1 = 1"),
            ("watch w not(not a.0.0 = 1)", "not not a.0.0 = 1"), ("watch w ((a.0.0 = 1 and a.0.1 = 1)) and a.0.2 = 1", "(a.0.0 = 1 and a.0.1 = 1) and a.0.2 = 1"),
        ):
            self.assertEqual(read_deed(line), ("watch", "w", text))
        self.assertEqual(written_deed(("watch", "w", "( a.0.0 =  1)")), "watch w ( a.0.0 =  1)")

    def test_wrong_lines(self):
        for line in (
            "", " ", "#", "take", "take ", "take count", "take  count web 3 0 9", " take count web 3 0 9", "take count web 3 0 9 ", "take count web 3 0 9\n", "take take count web 3 0 9",
            "take count web 3 0 09", "take rows all 0 ", "Take count web 3 0 9", "count web 3 0 9", "taken count web 3 0 9", "watch", "watch ", "watch w", "watch w ", "watch w  a.0.0 = 1",
            "watch  w a.0.0 = 1", "watch W a.0.0 = 1", "watch all a.0.0 = 1", "watch abcdefghijklm a.0.0 = 1", "watch a.0.0 = 1", "watch w a.0.0 = 1 or", "watch w a.0.0 = 01",
            "watch w a.0.0 = 1\n", "watch w a.0.0\n= 1", "watch w\ta.0.0 = 1", "watch w (a.0.0 = 1", " watch w a.0.0 = 1", "watch w row 0 a.0 from 0 to 1 >= 1", "promise", "promise ",
            "promise a.0.0 a.0.1", "promise a.0", "promise  a.0.0", "promise a.0.0 ", "promise a.0.00", "promise a.0.10000", "promise or.0.0", "promise A.0.0", "promise a.0.0\n",
            "forget ", "forget  a.0.0", "forget a.0.0 ", "forget a.0.0  b.0.0", "forget a.0.0,b.0.0", "forget a.0", "forget a.0.0 x", "forgets", " forget", "forget\n", "undo", "(forget)",
        ):
            self.check_wrong(line)
            self.assertFalse(own_reads_deed(line), line)

    def test_drawn_deeds(self):
        draw = draws(670)
        for _ in range(300):
            deed = drawn_deed(draw)
            line = written_deed(deed)
            self.assertTrue(own_reads_deed(line), line)
            self.assertEqual(read_deed(line), deed)

    def test_one_change(self):
        draw = draws(671)
        verdicts = []
        for _ in range(4000):
            line = changed(draw, written_deed(drawn_deed(draw)), " .0019aawr#\n-A()=>")
            verdicts.append(own_reads_deed(line))
            if verdicts[-1]:
                self.check_meaning(line, read_deed(line))
            else:
                self.check_wrong(line)
        self.assertGreater(verdicts.count(True), 300)
        self.assertGreater(verdicts.count(False), 1000)

    def check_meaning(self, line, deed):
        if deed[0] == "watch":
            _, name, text = line.split(" ", 2)
            self.assertEqual(deed, ("watch", name, written_question(read_question(text))))
            return
        self.assertEqual(written_deed(deed), line)
        if deed[0] == "take":
            self.assertEqual(deed[1], read_item(line[5:]))


class BooksTest(unittest.TestCase):
    def check_bad(self, text, number):
        with self.assertRaises(BadLine) as caught:
            read_book(text)
        self.assertEqual(caught.exception.number, number, text)

    def test_both_ways(self):
        deeds = [deed for deed, _ in PAIRS]
        text = "".join(line + "\n" for _, line in PAIRS)
        self.assertEqual((written_book(deeds), read_book(text)), (text, deeds))
        self.assertEqual((written_book([]), read_book("")), ("", []))

    def test_lines_that_are_skipped_and_others(self):
        for text in ("forget\n", "\nforget\n", "forget\n\n\n", "#\n# forget a.0.0\n\nforget\n#x\n"):
            self.assertEqual(read_book(text), [("forget", ())])
        self.assertEqual(read_book("\n#\n\n"), [])
        for text, number in (
            (" \n", 1), (" forget\n", 1), ("forget\n #\n", 2), ("forget \n", 1), ("#\n\nx\n", 3), ("forget\nx\ny\n", 2), ("forget", 1), ("forget\nforget", 2), ("#", 1), ("forget\n#", 2),
            ("x\nforget", 1), ("forget\n\nx", 3), ("watch w a.0.0 =\n1\n", 1), ("undo\n", 1), ("forget\n\n ", 3),
        ):
            self.check_bad(text, number)

    def test_drawn_books(self):
        draw = draws(672)
        bad = 0
        for _ in range(1000):
            deeds = [drawn_deed(draw) for _ in range(draw.randint(0, 4))]
            text = written_book(deeds)
            self.assertEqual(read_book(text), deeds)
            text = changed(draw, text, "\n\n# 01ax(")
            number = own_bad_line(text, own_reads_deed)
            if number is None:
                lines = [line for line in text.split("\n") if line and line[0] != "#"]
                self.assertEqual(read_book(text), [read_deed(line) for line in lines])
            else:
                bad += 1
                self.check_bad(text, number)
        self.assertTrue(200 < bad < 950)

    def test_a_desk_from_its_book(self):
        draw = draws(673)
        setup = Setup(doc_world(), cap=9, samples=[("bad", 3, 0, [])])
        desk = Desk(setup)
        for item in (("count", "ok", 0, 0, 4), ("rows", "bad", 1, (0, 3)), ("total", ("all", 2, 0), 7, 30)):
            desk.take(item)
        desk.watch("w", " (ok.0.0 >= 1)or not( err.2.0 <= 2 )".strip())
        desk.promise(("ok", 0, 0))
        desk.forget(draw.sample(own_sums(doc_world()), 9) + [("ok", 0, 0)])
        text = written_book(desk.deeds())
        self.assertEqual(read_book(text), desk.deeds())
        self.assertTrue(replay(setup, read_book(text)) == desk)

    def test_large_books(self):
        draw = draws(674)
        deeds = [drawn_deed(draw) for _ in range(400)]
        rough = [
            f"watch w{k} {roughly_written(draw, drawn_question(draw, doc_world(), 8)).lstrip()}" for k in range(50)
        ]
        text = written_book(deeds) + "".join(line + "\n" for line in rough)
        found = read_book(text)
        self.assertEqual(found[:400], deeds)
        self.assertEqual(read_book(written_book(found)), found)
        self.check_bad(text + "x\n", 451)
        self.check_bad(text + "forget", 451)

    def test_lists_may_change_afterwards(self):
        deeds = [("forget", ())]
        written_book(deeds)
        self.assertEqual(deeds, [("forget", ())])
        read_book("forget\n").clear()
        self.assertEqual(read_book("forget\n"), deeds)


if __name__ == "__main__":
    unittest.main()
