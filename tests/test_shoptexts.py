"""Point 7: a shop's text, written and read."""

import re
import unittest

from platecuts.errors import NoText
from platecuts.shops import Shop
from platecuts.shoptexts import read_shop, shop_text
from things import HUGE, SIXTY, Refusing, odd_rows, odd_things

SIGNS = [chr(code) for code in range(32, 127)] + ["\n"]
OTHER_SIGNS = ["\t", "\r", "\0", "\x0b", "\x0c", "\x1c", "\x85", "\u2028", "\u00b2", "\u0663", "\uff11", "\u00a0"]
# The text of point 7, written down a second time and in another way than the program reads it.
WRITTEN = re.compile(r"(0|[1-9][0-9]*)\n([1-9][0-9]* [1-9][0-9]*( (0|[1-9][0-9]*)){2} (turns|stays)\n){1,8}")

TEXTS = {
    "1\n3 2 5 4 turns\n": (1, [(3, 2, 5, 4, True)]),
    "0\n1 1 0 0 stays\n": (0, [(1, 1, 0, 0, False)]),
    "10\n100 20 0 30 stays\n7 7 7 7 turns\n": (10, [(100, 20, 0, 30, False), (7, 7, 7, 7, True)]),
    "2\n1 2 3 4 turns\n1 2 3 4 turns\n": (2, [(1, 2, 3, 4, True), (1, 2, 3, 4, True)]),
    "5\n" + "1 2 3 4 stays\n" * 8: (5, [(1, 2, 3, 4, False)] * 8),
    f"{HUGE}\n{SIXTY} {HUGE} {SIXTY} {HUGE} turns\n": (HUGE, [(SIXTY, HUGE, SIXTY, HUGE, True)]),
}


class ThereAndBack(unittest.TestCase):
    def test_written(self):
        for text, (blade, kinds) in TEXTS.items():
            self.assertIs(type(shop_text(Shop(blade, kinds))), str)
            self.assertEqual(shop_text(Shop(blade, kinds)), text)
            self.assertEqual(shop_text(Shop(blade, tuple([list(kind) for kind in kinds]))), text)

    def test_read(self):
        for text, (blade, kinds) in TEXTS.items():
            shop = read_shop(text)
            self.assertIs(type(shop), Shop)
            self.assertIs(type(shop.blade()), int)
            self.assertEqual(shop.blade(), blade)
            self.assertEqual(shop.kinds(), kinds)
            for kind in shop.kinds():
                self.assertIs(type(kind), tuple)
                self.assertEqual([type(thing) for thing in kind], [int, int, int, int, bool])

    def test_read_and_written_again(self):
        for text in TEXTS:
            self.assertEqual(shop_text(read_shop(text)), text)

    def test_a_read_shop_is_a_whole_shop(self):
        shop = read_shop("1\n3 2 5 4 turns\n3 2 5 4 stays\n")
        self.assertEqual(shop.lyings(), [(0, False), (0, True), (1, False)])
        self.assertEqual(shop.sides(0, True), (2, 3))

    def test_each_number_of_kinds(self):
        lines = [f"{n + 1} {20 - n} {n} {3 * n} {'stays' if n % 3 else 'turns'}\n" for n in range(8)]
        kinds = [(n + 1, 20 - n, n, 3 * n, n % 3 == 0) for n in range(8)]
        for many in range(1, 9):
            text = "4\n" + "".join(lines[:many])
            self.assertEqual(shop_text(Shop(4, kinds[:many])), text)
            self.assertEqual(read_shop(text).kinds(), kinds[:many])

    def test_many_numbers(self):
        for number in list(range(1, 120)) + [10 ** n for n in range(60)] + [10 ** n - 1 for n in range(1, 61)]:
            text = f"{number}\n{number} 1 {number} 0 stays\n1 {number} 0 {number} turns\n"
            kinds = [(number, 1, number, 0, False), (1, number, 0, number, True)]
            self.assertEqual(shop_text(Shop(number, kinds)), text)
            self.assertEqual(read_shop(text).blade(), number)
            self.assertEqual(read_shop(text).kinds(), kinds)

    def test_writing_leaves_the_shop_as_it_was(self):
        shop = Shop(1, [(3, 2, 5, 4, True)])
        self.assertEqual(shop_text(shop), shop_text(shop))
        self.assertEqual(shop.kinds(), [(3, 2, 5, 4, True)])


class Refusals(Refusing, unittest.TestCase):
    def none(self, *texts):
        for text in texts:
            self.refused(NoText, read_shop, text)

    def places(self, word):
        """Texts with a word in the place of each of the five numbers."""
        texts = [f"{word}\n3 2 5 4 turns\n"]
        for place in range(4):
            words = ["3", "2", "5", "4", "turns"]
            words[place] = word
            texts.append("1\n" + " ".join(words) + "\n")
        return texts

    def test_noughts_ahead(self):
        for word in ("00", "01", "007", "000", "0" + str(SIXTY)):
            self.none(*self.places(word))

    def test_signs_and_other_ways_of_writing(self):
        for word in ("-1", "+1", "-0", "+0", "--1", "1_0", "_1", "1_", "1e1", "1.0", "1.", "0x1", "0b1", "1,0",
                     "a", "one", "", "None", "True", "1+1", "'1'", "turns"):
            self.none(*self.places(word))

    def test_figures_of_other_scripts(self):
        for word in ("\u00b2", "\u0663", "\uff11", "1\u0663"):
            self.none(*self.places(word))

    def test_sides_of_nought(self):
        self.none("1\n0 2 5 4 turns\n", "1\n3 0 5 4 turns\n", "1\n0 0 5 4 stays\n")
        self.none("1\n3 2 5 4 turns\n0 2 5 4 turns\n", "1\n3 2 5 4 turns\n3 0 5 4 stays\n")

    def test_blanks(self):
        self.none(" 1\n3 2 5 4 turns\n", "1 \n3 2 5 4 turns\n", "1\n 3 2 5 4 turns\n", "1\n3 2 5 4 turns \n",
                  "1\n3  2 5 4 turns\n", "1\n3 2 5 4  turns\n", "1\n3 2 5 4 turns\n ", " \n3 2 5 4 turns\n",
                  "1\n3\t2 5 4 turns\n", "1\n32 5 4 turns\n", "1\n3 2 5 4turns\n", "1 3 2 5 4 turns\n")

    def test_line_feeds(self):
        self.none("1\n3 2 5 4 turns", "1\n3 2 5 4 turns\n\n", "\n1\n3 2 5 4 turns\n", "1\n\n3 2 5 4 turns\n",
                  "1\n3 2 5 4 turns\n\n3 2 5 4 turns\n", "1\n3 2 5 4\nturns\n", "1\n3 2 5 4 turns3 2 5 4 turns\n",
                  "1\n3 2 5 4 turns 3 2 5 4 turns\n", "1\n3 2 5 4 turns\n3 2 5 4 turns",
                  "1\r\n3 2 5 4 turns\r\n", "1\r3 2 5 4 turns\r", "1\n3 2 5 4 turns\r\n")

    def test_too_few_and_too_many_kinds(self):
        self.none("", "\n", "\n\n", "1", "1\n", "0\n", "1\n\n")
        for many in (9, 10, 17, 250):
            self.none("1\n" + "3 2 5 4 turns\n" * many)
        self.none("3 2 5 4 turns\n", "3 2 5 4 turns\n3 2 5 4 turns\n")

    def test_too_few_and_too_many_words(self):
        self.none("1\n3 2 5 turns\n", "1\n3 2 5 4\n", "1\n3 2 5 4 6 turns\n", "1\n3 2 5 4 turns turns\n",
                  "1\nturns\n", "1\n3\n", "1 1\n3 2 5 4 turns\n", "1\nturns 3 2 5 4\n")

    def test_other_last_words(self):
        for word in ("turn", "Turns", "TURNS", "stay", "Stays", "turnsstays", "sturns", "True", "False", "0", "1",
                     "", "turns,", "turns.", "stays;"):
            self.none(f"1\n3 2 5 4 {word}\n", f"1\n3 2 5 4 turns\n3 2 5 4 {word}\n")

    def test_wrong_in_any_line(self):
        for place in range(8):
            for wrong in ("3 2 5 04 turns", "3 2 5 4 turn", "3 0 5 4 turns", "3 2 5 -4 turns", ""):
                lines = ["3 2 5 4 turns"] * 8
                lines[place] = wrong
                self.none("1\n" + "\n".join(lines) + "\n")

    def test_several_faults_at_once(self):
        self.none("-1\n0 0 x 4 turn\n", "01\n" + "0 2 5 4 turns\n" * 9, "x\n")

    def test_things_that_are_no_text(self):
        shop = Shop(1, [(3, 2, 5, 4, True)])
        self.none(0, 1, -1, SIXTY, True, False, b"1\n3 2 5 4 turns\n", ["1\n3 2 5 4 turns\n"],
                  ("1\n", "3 2 5 4 turns\n"), ["1", "3 2 5 4 turns"], {"1\n3 2 5 4 turns\n": 1}, shop)
        self.none(*odd_rows())
        self.none(*odd_things())

    def test_every_text_one_sign_off(self):
        for text in ("1\n3 2 5 4 turns\n", "10\n20 1 0 7 stays\n1 1 0 0 turns\n"):
            for near in near_texts(text):
                if WRITTEN.fullmatch(near):
                    self.assertEqual(shop_text(read_shop(near)), near)
                else:
                    self.none(near)


def near_texts(text):
    """All texts with one sign more, less, or exchanged."""
    found = set()
    for at in range(len(text) + 1):
        found.add(text[:at] + text[at + 1:])
        for sign in SIGNS + OTHER_SIGNS:
            found.add(text[:at] + sign + text[at:])
            found.add(text[:at] + sign + text[at + 1:])
    return sorted(found)


if __name__ == "__main__":
    unittest.main()
