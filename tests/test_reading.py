"""Written questions (points 57 to 59)."""

import unittest

from asking import Grammar, drawn_question, own_tokens, tuples_of
from helpers import doc_world, draws, large_world
from surelyseen.errors import BadQuestion
from surelyseen.reading import read_question, written_question

ONE = ("is", ("a", 0, 0), "=", 1)
TWO = ("is", ("a", 0, 1), "=", 1)
THREE = ("is", ("a", 0, 2), "=", 1)
PAIRS = [
    (ONE, "a.0.0 = 1"),
    (("is", ("all", 9999, 1000), ">=", 999999999), "all.9999.1000 >= 999999999"),
    (("some", "a", 0, 0, 3, "<=", 0), "some a.0 from 0 to 3 <= 0"),
    (("every", "all", 12, 7, 7, "=", 10), "every all.12 from 7 to 7 = 10"),
    (("row", 1, "web2", 0, 0, 999999999, ">=", 5), "row 1 web2.0 from 0 to 999999999 >= 5"),
    (("first", 999999999, "a", 1, 2, 5, "<=", 5, 3), "first 999999999 a.1 from 2 to 5 <= 5 at 3"),
    (("not", ONE), "not a.0.0 = 1"),
    (("not", ("not", ONE)), "not not a.0.0 = 1"),
    (("and", (ONE, TWO)), "a.0.0 = 1 and a.0.1 = 1"),
    (("or", (ONE, TWO, THREE)), "a.0.0 = 1 or a.0.1 = 1 or a.0.2 = 1"),
    (("or", (("and", (ONE, TWO)), THREE)), "a.0.0 = 1 and a.0.1 = 1 or a.0.2 = 1"),
    (("or", (ONE, ("and", (TWO, THREE)))), "a.0.0 = 1 or a.0.1 = 1 and a.0.2 = 1"),
    (("and", (("or", (ONE, TWO)), THREE)), "(a.0.0 = 1 or a.0.1 = 1) and a.0.2 = 1"),
    (("and", (("and", (ONE, TWO)), THREE)), "(a.0.0 = 1 and a.0.1 = 1) and a.0.2 = 1"),
    (("and", (ONE, ("and", (TWO, THREE)))), "a.0.0 = 1 and (a.0.1 = 1 and a.0.2 = 1)"),
    (("or", (("or", (ONE, TWO)), THREE)), "(a.0.0 = 1 or a.0.1 = 1) or a.0.2 = 1"),
    (("not", ("or", (ONE, TWO))), "not (a.0.0 = 1 or a.0.1 = 1)"),
    (("not", ("and", (ONE, TWO))), "not (a.0.0 = 1 and a.0.1 = 1)"),
    (("and", (("not", ONE), ("not", TWO))), "not a.0.0 = 1 and not a.0.1 = 1"),
    (("or", (("not", ("or", (ONE, TWO))), ("and", (("or", (TWO, THREE)), ONE)))),
     "not (a.0.0 = 1 or a.0.1 = 1) or (a.0.1 = 1 or a.0.2 = 1) and a.0.0 = 1"),
    (("not", ("and", (("or", (ONE, ("not", ("and", (ONE, TWO))))), THREE))), "not ((a.0.0 = 1 or not (a.0.0 = 1 and a.0.1 = 1)) and a.0.2 = 1)"),
]


class ReadingTest(unittest.TestCase):
    def check_bad(self, text, place):
        with self.assertRaises(BadQuestion) as caught:
            read_question(text)
        self.assertEqual(caught.exception.place, place, text)

    def check_grammar(self, text):
        """What the grammar says of a text, followed in every way; True if it is a question."""
        place = Grammar(own_tokens(text)).place()
        if place is None:
            question = read_question(text)
            self.assertEqual(read_question(written_question(question)), question)
            return True
        self.check_bad(text, place)
        return False

    def test_both_ways(self):
        for question, text in PAIRS:
            self.assertEqual(written_question(question), text)
            self.assertEqual(read_question(text), question)

    def test_spaces_and_parentheses(self):
        for text in (" a.0.0 = 1", "a.0.0  =   1 ", "(a.0.0 = 1)", "((a.0.0 = 1))", " ( ( a.0.0 = 1 ) ) ", "(a.0.0 =   1  )"):
            self.assertEqual(read_question(text), ONE)
        for text in ("not(a.0.0 = 1)", "not (a.0.0 = 1)", "(not a.0.0 = 1)", "not((a.0.0 = 1))"):
            self.assertEqual(read_question(text), ("not", ONE))
        for text in ("(a.0.0 = 1)and(a.0.1 = 1)", "( a.0.0 = 1 and (a.0.1 = 1) )", "((a.0.0 = 1)and a.0.1 = 1)"):
            self.assertEqual(read_question(text), ("and", (ONE, TWO)))
        self.assertEqual(
            read_question("(a.0.0 = 1 and a.0.1 = 1) and a.0.2 = 1"), ("and", (("and", (ONE, TWO)), THREE)),
        )

    def test_numbers(self):
        for text in (
            "a.0.0 = 0", "a.0.0 = 999999999", "a.9999.9999 = 1", "row 999999999 a.9999 from 0 to 0 >= 0", "some a.0 from 999999999 to 999999999 = 1",
        ):
            self.assertEqual(written_question(read_question(text)), text)
        for text, place in (
            ("a.0.0 = 1000000000", 2), ("a.0.0 = 01", 2), ("a.0.0 = 00", 2), ("a.0.0 = -1", 2), ("a.0.0 = +1", 2), ("a.0.0 = 1.0", 2),
            ("a.10000.0 = 1", 0), ("a.0.10000 = 1", 0), ("a.00.0 = 1", 0), ("a.0.01 = 1", 0), ("some a.10000 from 0 to 0 = 1", 1),
            ("some a.01 from 0 to 0 = 1", 1), ("some a.0 from 01 to 1 = 1", 3), ("some a.0 from 1000000000 to 1000000000 = 1", 3),
            ("some a.0 from 0 to 1000000000 = 1", 5), ("row 01 a.0 from 0 to 1 >= 1", 1), ("row 1000000000 a.0 from 0 to 1 >= 1", 1),
            ("first 1 a.0 from 0 to 9 >= 1 at 09", 10), ("first 1 a.0 from 0 to 999999999 >= 1 at 1000000000", 10),
        ):
            self.check_bad(text, place)

    def test_bounds_between_tokens(self):
        for text, place in (
            ("some a.0 from 3 to 2 = 1", 5), ("every a.0 from 10 to 9 = 1", 5), ("row 0 a.0 from 0 to 1 >= 1", 1), ("row 2 a.0 from 1 to 0 >= 1", 6),
            ("row 2 a.0 from 0 to 1 = 1", 7), ("first 0 a.0 from 0 to 1 >= 1 at 0", 1), ("first 1 a.0 from 5 to 4 >= 1 at 5", 6),
            ("first 1 a.0 from 2 to 4 = 1 at 2", 7), ("first 1 a.0 from 2 to 4 >= 1 at 1", 10), ("first 1 a.0 from 2 to 4 >= 1 at 5", 10),
        ):
            self.check_bad(text, place)
        for text in ("some a.0 from 3 to 3 = 1", "row 9 a.0 from 0 to 0 <= 1", "first 9 a.0 from 2 to 4 <= 1 at 2", "first 1 a.0 from 2 to 4 >= 1 at 4"):
            self.assertEqual(written_question(read_question(text)), text)

    def test_words_that_are_nearly_right(self):
        for text, place in (
            ("", 0), (" ", 0), ("(", 1), (")", 0), ("()", 1), ("not", 1), ("not )", 1), ("and", 0), ("or", 0), ("a", 0), ("a.0", 0), ("a.0.0.0 = 1", 0),
            ("a.0.0 == 1", 1), ("a.0.0 > 1", 1), ("a.0.0 => 1", 1), ("a.0.0=1", 0), ("a.0.0 =1", 1), ("a.0.0 = 1)", 3), ("(a.0.0 = 1", 4),
            ("a.0.0 = 1 a.0.1 = 1", 3), ("a.0.0 = 1 not", 3), ("a.0.0 = 1 (a.0.1 = 1)", 3), ("a.0.0 = 1 and", 4), ("a.0.0 = 1 and or", 4),
            ("a.0.0 = 1 and and", 4), ("a.0.0 = 1 And a.0.1 = 1", 3), ("NOT a.0.0 = 1", 0), ("some.0.0 = 1", 0), ("and.0.0 = 1", 0), ("Some a.0 from 0 to 1 = 1", 0),
            ("some all from 0 to 1 = 1", 1), ("some a.0.0 from 0 to 1 = 1", 1), ("some from.0 from 0 to 1 = 1", 1), ("some a.0 form 0 to 1 = 1", 2),
            ("some a.0 from 0 too 1 = 1", 4), ("some 2 a.0 from 0 to 1 = 1", 1), ("row a.0 from 0 to 1 >= 1", 1), ("row 2 a.0 from 0 to 1 >= 1 at 1", 9),
            ("first 2 a.0 from 0 to 1 >= 1", 9), ("first 2 a.0 from 0 to 1 >= 1 and", 9), ("first 2 a.0 from 0 to 1 >= 1 at", 10), ("some (a.0 from 0 to 1 = 1)", 1),
            ("a.0.0 (= 1)", 1), ("a.0.0 = (1)", 2), ("abcdefghijklm.0.0 = 1", 0), ("A.0.0 = 1", 0), ("a.0.0\n= 1", 0), ("a.0.0 = 1\n", 2), ("\na.0.0 = 1", 0),
            ("a.0.0 = 1 \n", 3), ("a.0.0 = 1\nand a.0.1 = 1", 2), ("a.0.0 = 1 and\na.0.1 = 1", 3), ("a.0.0 = 1 )", 3), ("((a.0.0 = 1) or )", 7),
        ):
            self.check_bad(text, place)
            self.assertEqual(Grammar(own_tokens(text)).place(), place, text)

    def test_texts_that_end_too_early(self):
        for _, text in PAIRS:
            for many in range(len(own_tokens(text)) + 1):
                self.check_grammar(" ".join(own_tokens(text)[:many]))
        tokens = own_tokens("first 2 a.0 from 0 to 3 >= 1 at 3")
        for many in range(len(tokens)):
            self.check_bad(" ".join(tokens[:many]), many)
            self.check_bad("(not ( " + " ".join(tokens[:many]), many + 3)

    def test_drawn_questions(self):
        draw = draws(140)
        for world in (doc_world(), large_world()):
            for _ in range(150):
                question = drawn_question(draw, world, draw.randint(1, 20), draw.choice([3, 999999999]))
                text = written_question(question)
                self.assertEqual(read_question(text), question)
                self.assertTrue(self.check_grammar(text))
                self.check_form(text)
                spread = text.replace("(", draw.choice(["(", " ( ", "(  "])).replace(")", draw.choice([")", " ) "]))
                self.assertEqual(read_question(draw.choice(["", " "]) + spread.replace(" ", draw.choice([" ", "  "]))), question)
                self.assertEqual(read_question(f"(({text}))"), question)

    def check_form(self, text):
        """Spaces stand where point 59 puts them, and no parentheses can be left out."""
        self.assertNotIn("  ", text)
        self.assertEqual(text, text.strip(" "))
        self.assertNotIn("( ", text)
        self.assertNotIn(" )", text)
        for place, sign in enumerate(text):
            if sign == "(" and place > 0:
                self.assertIn(text[place - 1], " (")
            if sign == ")" and place + 1 < len(text):
                self.assertIn(text[place + 1], " )")

    def test_no_parentheses_to_spare(self):
        draw = draws(141)
        for _ in range(60):
            question = drawn_question(draw, doc_world(), draw.randint(3, 9))
            text = written_question(question)
            for place in [k for k, sign in enumerate(text) if sign == "("]:
                depth, end = 0, place
                while True:
                    depth += (text[end] == "(") - (text[end] == ")")
                    if depth == 0:
                        break
                    end += 1
                bare = text[:place] + text[place + 1:end] + text[end + 1:]
                self.assertNotEqual(read_question(bare), question)

    def test_one_change(self):
        draw = draws(142)
        verdicts = []
        words = ["(", ")", "not", "and", "or", "some", "every", "row", "first", "from", "to", "at", ">=", "<=", "=", "0", "1", "2", "10",
                 "999999999", "1000000000", "a.0", "a.0.0", "all.1", "all.1.0", "x", "in", "01", "\n", "1\n", ">", "a.0."]
        for _ in range(1500):
            question = drawn_question(draw, doc_world(), draw.randint(1, 8))
            tokens = own_tokens(written_question(question))
            place = draw.randrange(len(tokens) + 1)
            way = draw.randint(0, 3)
            if way == 0:
                tokens = tokens[:place] + tokens[place + 1:]
            elif way == 1:
                tokens = tokens[:place] + [draw.choice(words)] + tokens[place:]
            elif way == 2:
                tokens = tokens[:place] + [draw.choice(words)] + tokens[place + 1:]
            else:
                tokens = tokens[:place] + tokens[place:place + 2][::-1] + tokens[place + 2:]
            verdicts.append(self.check_grammar(" ".join(tokens)))
        self.assertGreater(verdicts.count(True), 50)
        self.assertGreater(verdicts.count(False), 800)

    def test_one_changed_sign(self):
        draw = draws(143)
        for _ in range(1500):
            text = written_question(drawn_question(draw, doc_world(), draw.randint(1, 5)))
            place = draw.randrange(len(text) + 1)
            text = text[:place] + draw.choice(["", " ", "(", ")", "0", "1", "x", ".", "=", ">", "\n", "-"]) + text[place + draw.randint(0, 1):]
            self.check_grammar(text)

    def test_400_tokens_nested_20_deep(self):
        text = "a.0.0 = 1"
        for _ in range(10):
            text = f"not (a.0.1 = 1 and ({text} or b.1.0 >= 3) and a.0.2 <= 4)"
        question = read_question(text)
        self.assertEqual(written_question(question), text)
        wide = " and ".join(["(a.0.0 = 1 or a.0.1 = 1)"] * 40)
        self.assertEqual(len(own_tokens(wide)), 399)
        self.assertEqual(read_question(wide), ("and", (("or", (ONE, TWO)),) * 40))
        self.assertEqual(len(tuples_of(read_question(wide))), 121)
        self.check_bad(wide + " and", 400)
        self.check_bad("(" * 20 + text, 20 + len(own_tokens(text)))
        self.check_bad("(" * 400, 400)
        self.check_bad("not " * 400, 400)
        nested = "(" * 20 + "a.0.0 = 1" + ")" * 20
        self.assertEqual(read_question(nested), ONE)
        self.check_bad(nested + ")", 43)
        self.assertEqual(read_question("not " * 20 + "a.0.0 = 1"), read_question("not (" * 20 + "a.0.0 = 1" + ")" * 20))


if __name__ == "__main__":
    unittest.main()
