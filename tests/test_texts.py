"""Promise 29: purse/texts.py."""

import itertools
import unittest

from purse.errors import NoRow
from purse.texts import read_number, read_words

SIGNS = [chr(code) for code in range(32, 127)] + ["\t", "\n"]


class Words(unittest.TestCase):
    def tells(self, row, words):
        told = read_words(row)
        self.assertEqual(told, words)
        self.assertIs(type(told), list)

    def refuses(self, row):
        with self.assertRaises(NoRow, msg=repr(row)):
            read_words(row)

    def test_words(self):
        self.tells("pot", ["pot"])
        self.tells("a", ["a"])
        self.tells("enrol ann", ["enrol", "ann"])
        self.tells("propose park 30", ["propose", "park", "30"])
        self.tells("a b c d e f", ["a", "b", "c", "d", "e", "f"])
        self.tells(" ".join(["word"] * 500), ["word"] * 500)

    def test_a_word_is_of_any_signs_but_a_blank(self):
        for sign in SIGNS[1:]:
            self.tells(sign, [sign])
            self.tells(f"a{sign} {sign}b {sign}", ["a" + sign, sign + "b", sign])

    def test_tabs_and_line_ends_are_signs_of_a_word(self):
        self.tells("\t", ["\t"])
        self.tells("\n", ["\n"])
        self.tells("pot\n", ["pot\n"])
        self.tells("\tpot", ["\tpot"])
        self.tells("give\t5", ["give\t5"])
        self.tells("give\n5 \t\n", ["give\n5", "\t\n"])
        self.tells("a \t b", ["a", "\t", "b"])

    def test_a_blank_at_an_end(self):
        for row in (" pot", "pot ", " pot ", " enrol ann", "enrol ann ", " \t", "\n "):
            self.refuses(row)

    def test_two_blanks_together(self):
        for row in ("enrol  ann", "a b  c", "a  b c", "a   b", "a    b"):
            self.refuses(row)

    def test_no_signs_and_blanks_alone(self):
        for row in ("", " ", "  ", "   "):
            self.refuses(row)

    def test_every_short_text(self):
        for count in range(6):
            for signs in itertools.product("a \t", repeat=count):
                row = "".join(signs)
                if row == "" or row[0] == " " or row[-1] == " " or "  " in row:
                    self.refuses(row)
                else:
                    words = read_words(row)
                    self.assertEqual(" ".join(words), row)
                    self.assertEqual([word for word in words if word == "" or " " in word], [])


class Numbers(unittest.TestCase):
    def tells(self, word, number):
        told = read_number(word)
        self.assertEqual(told, number)
        self.assertIs(type(told), int)

    def refuses(self, word):
        with self.assertRaises(NoRow, msg=repr(word)):
            read_number(word)

    def test_one_to_thirteen_figures(self):
        for count in range(1, 14):
            self.tells("1" + "0" * (count - 1), 10 ** (count - 1))
            self.tells("9" * count, 10 ** count - 1)
            self.tells("1234567890123"[:count], 1234567890123 // 10 ** (13 - count))

    def test_every_figure(self):
        for number in range(1100):
            self.tells(str(number), number)

    def test_fourteen_figures_and_more(self):
        for word in ("1" + "0" * 13, "9" * 14, "12345678901234", "9" * 20, "1" * 5000):
            self.refuses(word)

    def test_nought(self):
        self.tells("0", 0)

    def test_a_nought_ahead(self):
        for word in ("00", "01", "007", "0" * 13, "0" * 14, "0" + "1" * 12, "0" + "1" * 13, "0 ", "0a", "0x1", "0b1"):
            self.refuses(word)

    def test_no_signs(self):
        self.refuses("")

    def test_other_signs(self):
        for word in (
            "-1", "+1", "-0", "+0", "1.0", "1.", ".5", "1e3", "1_000", "a", "ten", "1a", "a1", "1 ", " 1", "1 2",
            "1\n", "\n1", "\t1", "1\t", " ", "\n", "-", "+", "_", "1,000", "1/2", "12-", "F", "ff",
        ):
            self.refuses(word)

    def test_any_sign_at_any_place(self):
        for sign in SIGNS:
            if not "0" <= sign <= "9":
                for word in (sign, sign + "5", "5" + sign, "5" + sign + "5"):
                    self.refuses(word)

    def test_every_short_text(self):
        for count in range(5):
            for signs in itertools.product("019 -_\n", repeat=count):
                word = "".join(signs)
                if set(word) <= set("019") and word != "" and (word == "0" or word[0] != "0"):
                    self.tells(word, sum(int(sign) * 10 ** place for place, sign in enumerate(word[::-1])))
                else:
                    self.refuses(word)


if __name__ == "__main__":
    unittest.main()
