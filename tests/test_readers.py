"""readers.py: each thing there and back, and all that is no text of anything right."""

import random
import unittest

from hookmats import readers, texts
from hookmats.errors import Unreadable
from tests import oracles, texts_oracle
from tests.checks import Case

E = oracles.hook(3, 0)
SHAPES = [(40, 0), (0, 40), (20, 20), (1, 39), (39, 1), (33, 7), (16, 0), (8, 8), (3, 1), (0, 2)]
BIG = 10 ** 30 - 1
SIGNS = "0123456789 -+w^[]|:;/.,()aW_\n\t~"
# For each sort how it is shown and read, by the package and by the plain counterparts.
SORTS = {
    "mat": (texts.show_mat, readers.read_mat, texts_oracle.read_mat),
    "word": (texts.show_word, readers.read_word, texts_oracle.read_word),
    "poly": (texts.show_poly, readers.read_poly, texts_oracle.read_poly),
    "sum": (texts.show_sum, readers.read_sum, texts_oracle.read_sum),
    "parts": (texts.show_parts, readers.read_parts, texts_oracle.read_parts),
    "walk": (texts.show_walk, readers.read_walk, texts_oracle.read_walk),
}
RIGHT = {
    "mat": ["1|1: 0-1", "2|0: 0-1", "0|2: 0-1", "3|3: 0-1 2-5 3-4", "0|4: 0-3 1-2", "4|0: 0-1 2-3", "10|2: "
            "0-9 1-2 3-8 4-5 6-7 10-11", "6|6: 0-6 1-7 2-8 3-9 4-10 5-11"],
    "word": ["-", "0", "0 1", "10 0 7", "0 0 0", "123456789012345678901234567890 1"],
    "poly": ["0", "1", "-1", "1 w", "-7 w", "1 w^2", "-1 + 1 w^2", "1 + -2 w + 3 w^2", "5 w + 1 w^10 + -12 w^1000",
             "10 w^100", "-123456789012345678901234567890 w^12"],
    "sum": ["0", "1 [1|1: 0-1]", "1 w [2|2: 0-1 2-3]", "-1 [2|2: 0-1 2-3] ; 1 + 2 w [2|2: 0-2 1-3]",
            "2 w^3 + -1 w^12 [0|2: 0-1]", "1 [4|0: 0-1 2-3] ; -1 [4|0: 0-3 1-2]"],
    "parts": ["0", "0 1", "0 / 1", "0 2 / 1", "0 3 / 1 2", "0 1 / 2 / 3 4 5", "0 10 / 1 2 / 3 / 4 5 6 7 8 9"],
    "walk": [".", "+", "+-", "++-", "+-+-", "++--+", "+++---"],
}
WRONG = {
    "mat": [
        "", " ", "1|1:", "1|1: ", ": 0-1", "|: 0-1", "1|: 0-1", "|1: 0-1", "0|0: ", "0|0:", "1|1 0-1", "1|1:0-1",
        "1|1:  0-1", " 1|1: 0-1", "1|1: 0-1 ", "1|1: 1-0", "1|1: 0-0", "1|1: 0-1 0-1", "1|1: 0 1", "1|1: 0--1",
        "1|1: -0-1", "1|1: 0-+1", "1|1: 00-1", "1|1: 0-01", "01|1: 0-1", "1|01: 0-1", "+1|1: 0-1", "-1|3: 0-1",
        "3|-1: 0-1", "2|1: 0-1", "2|2: 0-1", "1|1: 0-2", "1|1: 1-2", "2|2: 0-3 1-2", "2|2: 2-3 0-1", "2|2: 0-2 1-3 ",
        "2|2: 0-2  1-3", "2|2: 0-2 1-3\n", "2|2: 0-2\t1-3", "\n1|1: 0-1", "2|2: 0-2, 1-3", "2|2: 0-2 1-2",
        "4|0: 0-2 1-3", "0|4: 0-2 1-3", "3|1: 0-2 1-3", "1|1: 0-1-0", "1|1|0: 0-1", "1|1: 0-1: 0-1", "1|1: 0-x",
        "1|1: a-b", "1 | 1: 0-1", "1|1 : 0-1", "[1|1: 0-1]", "1|1: 0-1 ;", "2|0: 0-1 2-3", "1|1: 0-1 2", "1|1: -",
        "999999999999999999999999999999|1: 0-1", "1|999999999999999999999999999999: 0-1",
        "1|1: 0-999999999999999999999999999999", "1|1: 0-" + "9" * 31, "9" * 31 + "|1: 0-1", "9" * 4400 + "|1: 0-1",
        "500000000|500000000: 0-1", "-1|-1: 0-1", "0|2: 0-1 1-0", "0", ".", "-",
    ],
    "word": [
        "", " ", "0 ", " 0", "0  1", "00", "01", "0 01", "-0", "-1", "0 -1", "- ", " -", "--", "- 0", "0 -", "+1", "+",
        "0,1", "a", "0 a", "0\n", "\n", "0\t1", "0\n1", ".", "1.0", "1e3", "0x1", "1_0", "0-1", "9" * 31,
        "0 " + "1" + "0" * 30, "0" * 31, "9" * 5000, "(0)", "0;1",
    ],
    "poly": [
        "", " ", "-", "+", "-0", "+1", "00", "01", "-01", "0 w", "0 + 1 w", "1 + 0 w", "1 w + 0", "1 w^0", "1 w^1",
        "1 w^01", "1 w^02", "1 w^-2", "1 w^+2", "1 w^", "1w", "1  w", "w", " w", "w^2", "-w", "1 w ", " 1 w", "1 W",
        "1 x", "1 w2", "1 w ^2", "1 w^ 2", "1 w^2 ", "1+1 w", "1 +1 w", "1+ 1 w", "1 +  1 w", "1 + + 1 w", "1 + ",
        " + 1", "1 +", "+ 1", "1 - 1 w", "1 w + 1", "1 w^2 + 1 w", "1 + 1", "1 w + 1 w", "1 w^2 + 1 w^2",
        "1 w^3 + 1 w^2 + 1", "1 w^1001", "1 w^9999", "1 w^" + "9" * 30, "1 w^" + "9" * 31, "1 w^" + "9" * 4400,
        "1 + 1 w^1001", "9" * 31, "-" + "9" * 31, "1" + "0" * 30, "-1" + "0" * 30 + " w", "9" * 5000, "1\n", "\n1",
        "1\tw", "1 w\n", "1 + 1 w\n", "1 w w", "1 w 2", "1 2", "1 w^2^2", "1*w", "1 w + 2 w^3 ; 1", ".", "(1)",
        "--1", "1 + --1 w", "0 + 0", "- 1", "0" * 31,
    ],
    "sum": [
        "", " ", "-", "0 ", " 0", "-0", "00", "1", "1 w", "[1|1: 0-1]", " [1|1: 0-1]", "1[1|1: 0-1]", "1  [1|1: 0-1]",
        "1 [1|1: 0-1] ", " 1 [1|1: 0-1]", "1 [1|1: 0-1", "1 1|1: 0-1]", "1 (1|1: 0-1)", "1 [ 1|1: 0-1]",
        "1 [1|1: 0-1 ]", "0 [1|1: 0-1]", "-0 [1|1: 0-1]", "1 [1|1: 0-1] ;", "; 1 [1|1: 0-1]", "1 [1|1: 0-1] ; ",
        "1 [1|1: 0-1] ; 0", "0 ; 1 [1|1: 0-1]", "1 [1|1: 0-1] ; 1 [1|1: 0-1]", "1 [1|1: 0-1];1 [1|1: 0-1]",
        "1 [2|2: 0-2 1-3] ; 1 [2|2: 0-1 2-3]", "1 [2|2: 0-1 2-3] ; 2 [2|2: 0-1 2-3]",
        "1 [2|2: 0-1 2-3] 1 [2|2: 0-2 1-3]", "1 [2|2: 0-1 2-3];1 [2|2: 0-2 1-3]", "1 [2|2: 0-1 2-3] ;1 [2|2: 0-2 1-3]",
        "1 [2|2: 0-1 2-3]; 1 [2|2: 0-2 1-3]", "1 [2|2: 0-1 2-3] ;  1 [2|2: 0-2 1-3]",
        "1 [2|2: 0-1 2-3] ; 0 [2|2: 0-2 1-3]", "0 [2|2: 0-1 2-3] ; 1 [2|2: 0-2 1-3]",
        "1 [1|1: 0-1] ; 1 [2|2: 0-1 2-3]", "1 [1|3: 0-1 2-3] ; 1 [2|2: 0-1 2-3]", "1 [2|2: 0-3 1-2]",
        "1 [0|2: 0-1] ; 1 [1|1: 0-1]", "1 [2|2: 0-1 2-3] + 1 [2|2: 0-2 1-3]", "1 + [1|1: 0-1]", "1 w + 1 [1|1: 0-1]",
        "1 w^1 [1|1: 0-1]", "1 w^1001 [1|1: 0-1]", "9" * 31 + " [1|1: 0-1]", "1 [" + "9" * 31 + "|1: 0-1]",
        "1 [1|1: 0-1]\n", "1\t[1|1: 0-1]", "1 [[1|1: 0-1]]", "1 [1|1: 0-1]]", "1 [1|1: 0-1] [1|1: 0-1]", "1|1: 0-1",
        "01 [1|1: 0-1]", "+1 [1|1: 0-1]", "1 []", "1 [0]", "1 [0|0: ]",
    ],
    "parts": [
        "", " ", "-", ".", "1", "0 ", " 0", "0  1", "0 /", "/ 0", "0 / ", " / 0", "0/1", "0 /1", "0/ 1", "0 /  1",
        "0  / 1", "0 / / 1", "0 | 1", "1 / 0", "1 0", "0 0", "0 / 0", "0 1 / 1", "0 2", "0 / 2", "1 / 2", "-1 / 0",
        "-0", "00", "0 / 01", "0 / +1", "0 2 / 1 3", "0 2 4 / 1 3", "0 1 3 / 2 4", "1 / 0 2", "0 3 / 2 / 1", "0 2 1",
        "0\n", "\n0", "0\t1", "0 /\n1", "0 / 1\n", "a", "0 / a", "(0)", "0, 1", "0 " + "9" * 31, "0 / " + "9" * 30,
        "9" * 5000, "0;1",
    ],
    "walk": [
        "", " ", "-", "-+", "+--", "+-- +", ". ", " .", "..", ".+", "+.", "+-.", "+ -", "+ ", " +", "+-\n", "\n+",
        "+\t", "0", "1", "1 -1", "+-0", "+1", "+a", "+\n-", "+--+", "++---", "*", "+=", ",",
    ],
}


class ReadersCase(Case):

    def assert_read(self, sort, thing):
        show, read, plainly = SORTS[sort]
        text = show(thing)
        self.assert_same_kind(self.in_time(read, text), thing)
        self.assertEqual(plainly(text), thing)

    def assert_unreadable(self, sort, text):
        self.assert_raised_itself(Unreadable, text, SORTS[sort][1], text)

    def assert_as_plainly(self, sort, text):
        """What a text has, or that nothing has it, is what the plain counterpart tells."""
        show, read, plainly = SORTS[sort]
        wanted = plainly(text)
        if wanted is None:
            self.assert_unreadable(sort, text)
            return
        self.assert_same_kind(read(text), wanted)
        self.assertEqual(show(wanted), text)


class TestThereAndBack(ReadersCase):

    def test_by_hand(self):
        for sort, text, wanted in (
            ("mat", "3|3: 0-1 2-5 3-4", E), ("mat", "0|2: 0-1", (0, 2, (1, 0))), ("mat", "2|0: 0-1", (2, 0, (1, 0))),
            ("word", "-", ()), ("word", "0", (0,)), ("word", "10 0 7", (10, 0, 7)),
            ("poly", "0", ()), ("poly", "-1 + 1 w^2", (-1, 0, 1)), ("poly", "5 w", (0, 5)), ("poly", "-12", (-12,)),
            ("sum", "0", ()), ("sum", "1 w [2|2: 0-1 2-3]", (((2, 2, (1, 0, 3, 2)), (0, 1)),)),
            ("parts", "0 2 / 1", ((0, 2), (1,))), ("parts", "0", ((0,),)),
            ("walk", ".", ()), ("walk", "++-", (1, 1, -1)),
        ):
            self.assert_same_kind(SORTS[sort][1](text), wanted)

    def test_mats(self):
        for mat in oracles.mats_to(8):
            self.assert_read("mat", mat)
        chance = random.Random(1)
        for n, m in SHAPES:
            for _ in range(12):
                self.assert_read("mat", oracles.some_mat(n, m, chance))

    def test_words(self):
        chance = random.Random(2)
        self.assert_read("word", ())
        for greatest in (1, 7, 100, BIG + 1):
            for many in (1, 2, 3, 30) if greatest > 100 else (1, 2, 3, 30, 200):
                self.assert_read("word", tuple(chance.randrange(greatest) for _ in range(many)))
        self.assert_read("word", (BIG, 0, BIG))

    def test_polys(self):
        chance = random.Random(3)
        for poly in ((), (1,), (-1,), (0, 0, -5), (BIG,), (-BIG,), (0, -BIG, BIG), (0,) * 1000 + (-1,),
                     (BIG,) + (0,) * 998 + (1, -BIG), tuple(range(1, 400)), (0, 1) * 300):
            self.assert_read("poly", poly)
        for _ in range(300):
            self.assert_read("poly", texts_oracle.some_poly(chance, 30, chance.choice((1, 2, 29, 30))))

    def test_sums(self):
        chance = random.Random(4)
        self.assert_read("sum", ())
        for n, m in ((1, 1), (2, 2), (3, 3), (4, 0), (0, 4), (1, 3), (5, 5), (4, 6)):
            for _ in range(20):
                told = oracles.all_mats(n, m)
                kept = sorted(chance.sample(told, chance.randint(1, min(8, len(told)))))
                self.assert_read("sum", tuple((mat, texts_oracle.some_poly(chance, 6, 30)) for mat in kept))
        for n, m in ((20, 20), (40, 0), (0, 40)):
            kept = sorted({oracles.some_mat(n, m, chance) for _ in range(6)})
            self.assert_read("sum", tuple((mat, (0,) * 1000 + (BIG,)) for mat in kept))
        self.assert_read("sum", tuple((mat, (0, 3)) for mat in oracles.all_mats(6, 6)[:120]))
        kept = sorted({oracles.some_mat(0, 14, chance) for _ in range(250)})
        self.assertGreater(len(kept), 132)
        self.assert_read("sum", tuple((mat, (1,)) for mat in kept[:140]))

    def test_parts(self):
        for n in range(1, 7):
            for told in oracles.all_parts(n):
                self.assert_read("parts", told)
        for told in (tuple((number,) for number in range(200)), (tuple(range(300)),),
                     tuple((number, 199 - number) for number in range(100))):
            self.assert_read("parts", told)

    def test_walks(self):
        chance = random.Random(5)
        for n in range(9):
            for walk in oracles.walks(n):
                self.assert_read("walk", walk)
        for n in (16, 60, 61, 1000):
            self.assert_read("walk", oracles.some_walk(n, chance))

    def test_texts_of_5000_signs(self):
        chance = random.Random(6)
        for sort, thing in (
            ("mat", oracles.some_mat(550, 550, chance)), ("mat", oracles.some_mat(0, 1100, chance)),
            ("word", (7,) * 2500), ("poly", tuple(range(-200, 220))), ("walk", oracles.some_walk(5000, chance)),
            ("parts", tuple((number, 799 - number) for number in range(400))),
            ("parts", tuple((number,) for number in range(700))),
            ("sum", tuple((mat, (number, -1)) for number, mat in enumerate(oracles.all_mats(6, 6)[:108], 1))),
        ):
            show, read, _ = SORTS[sort]
            text = show(thing)
            self.assertTrue(3500 <= len(text) <= 5100, len(text))
            self.assert_same_kind(self.in_time(read, text), thing)
            for wrong in (text + " ", " " + text, text[:-1] + "x", "x" + text[1:], text.replace("1", "01", 1) + "\n"):
                self.in_time(self.assert_unreadable, sort, wrong)


class TestUnreadable(ReadersCase):

    def test_by_hand(self):
        for sort, wrong in WRONG.items():
            for text in wrong:
                self.assertIsNone(SORTS[sort][2](text), text)
                self.assert_unreadable(sort, text)

    def test_right_ones(self):
        for sort, right in RIGHT.items():
            for text in right:
                self.assertIsNotNone(SORTS[sort][2](text), text)
                self.assert_as_plainly(sort, text)

    def test_a_sign_left_out(self):
        for sort, right in RIGHT.items():
            for text in right:
                for at in range(len(text)):
                    self.assert_as_plainly(sort, text[:at] + text[at + 1:])

    def test_a_sign_put_in(self):
        for sort, right in RIGHT.items():
            for text in right:
                for at in range(len(text) + 1):
                    for sign in SIGNS:
                        self.assert_as_plainly(sort, text[:at] + sign + text[at:])

    def test_a_sign_exchanged(self):
        for sort, right in RIGHT.items():
            for text in right:
                for at in range(len(text)):
                    for sign in SIGNS:
                        self.assert_as_plainly(sort, text[:at] + sign + text[at + 1:])

    def test_two_signs_exchanged(self):
        for sort, right in RIGHT.items():
            for text in right:
                for at in range(len(text) - 1):
                    self.assert_as_plainly(sort, text[:at] + text[at + 1] + text[at] + text[at + 2:])

    def test_words_exchanged_left_out_or_twice(self):
        for sort, right in RIGHT.items():
            for text in right:
                words = text.split(" ")
                for at in range(len(words)):
                    self.assert_as_plainly(sort, " ".join(words[:at] + words[at + 1:]))
                    self.assert_as_plainly(sort, " ".join(words[:at + 1] + words[at:]))
                    for to in range(at):
                        row = list(words)
                        row[at], row[to] = row[to], row[at]
                        self.assert_as_plainly(sort, " ".join(row))

    def test_another_sort(self):
        for right in RIGHT.values():
            for text in right:
                for sort in SORTS:
                    self.assert_as_plainly(sort, text)
        for sort, text in (("walk", "-"), ("word", "."), ("sum", "1"), ("poly", "1 w [1|1: 0-1]"), ("mat", "0 1"),
                           ("parts", "-"), ("poly", "+"), ("word", "0 2 / 1"), ("parts", "1 0"), ("walk", "0")):
            self.assert_unreadable(sort, text)

    def test_drawn_signs(self):
        chance = random.Random(7)
        for sort in SORTS:
            for _ in range(1500):
                text = "".join(chance.choice("01 -+w|:.") for _ in range(chance.randint(0, 6)))
                self.assert_as_plainly(sort, text)

    def test_all_short_texts(self):
        for sort in SORTS:
            for one in [""] + [chr(code) for code in range(32, 127)] + ["\n", "\t"]:
                for other in [""] + list("01-+ w.\n"):
                    self.assert_as_plainly(sort, one + other)

    def test_sizes(self):
        for digits in (29, 30, 31, 32, 60):
            number = "7" * digits
            for sort, text in (
                ("word", number), ("word", "0 " + number), ("poly", number), ("poly", "-" + number),
                ("poly", "1 + " + number + " w^3"), ("sum", number + " w [1|1: 0-1]"),
                ("sum", "-" + number + " [1|1: 0-1]"),
            ):
                self.assert_as_plainly(sort, text)
                self.assertEqual(SORTS[sort][2](text) is None, digits > 30)
        for power in (2, 999, 1000, 1001, 1002, 2000, 10 ** 6, 10 ** 29, 10 ** 30):
            for text in ("1 w^%d" % power, "-3 + 1 w^%d" % power):
                self.in_time(self.assert_as_plainly, "poly", text)
                self.in_time(self.assert_as_plainly, "sum", text + " [1|1: 0-1]")
                self.assertEqual(texts_oracle.read_poly(text) is None, power > 1000)

    def test_what_is_shown_and_not_read(self):
        for poly in ((BIG + 1,), (-BIG - 1,), (0, 1, BIG + 1), (10 ** 3999,), (0,) * 1001 + (1,),
                     (1,) + (0,) * 4000 + (1,)):
            self.assert_unreadable("poly", texts.show_poly(poly))
            self.assert_unreadable("sum", texts.show_sum(((E, poly),)))
        self.assert_unreadable("word", texts.show_word((BIG + 1, 0)))

    def test_right_behind_wrong(self):
        for sort, right in RIGHT.items():
            self.assert_answered_still(SORTS[sort][1], (right[-1],), *[(text,) for text in WRONG[sort][:9]])


class TestCalls(ReadersCase):

    def test_by_position_and_by_name(self):
        for sort, right in RIGHT.items():
            for text in right:
                self.assert_by_name(SORTS[sort][1], text=text)


if __name__ == "__main__":
    unittest.main()
