"""Promises 1 to 4: what isn't a text is refused by -1, by each call, and nothing else is."""

import random
import unittest

from helper import as_bytes, ask_holds, ask_least, ask_same, ask_true, is_text
from wholesays.sentences import holds, is_true, least, same

TEXTS = (
    "[0=0]",
    "[10<9+9]",
    "[99+5%7=6]",
    "Ax[9x<x+1]",
    "!Ez([z=3]&[2z%9=8])",
    "(Ax[x=x]>(Ey[y<7]|![0=10]))",
    "AxEy[x+1=y]",
    "(Ex[x=0]&[y=0])",
)

NUMBERS = "0123456789"

# What else is handed in: these are never refused.
V = (3, 0, 60)
SHORT = "[0=0]"


class Asking(unittest.TestCase):
    def refused(self, *texts):
        for text in texts:
            with self.subTest(text=text):
                self.assertEqual(ask_true(text), [-1])
                self.assertEqual(ask_least(text), [-1])
                self.assertEqual(ask_holds(text, V), [-1])
                self.assertEqual(ask_same(text, SHORT), [-1])
                self.assertEqual(ask_same(SHORT, text), [-1])

    def taken(self, *texts):
        for text in texts:
            with self.subTest(text=text):
                self.assertIn(ask_true(text), ([0], [1], [-3]))
                self.assertIn(ask_least(text)[0], (0, 1, -3))
                self.assertIn(ask_holds(text, V), ([0], [1]))
                self.assertIn(ask_same(text, SHORT), ([0], [1]))
                self.assertIn(ask_same(SHORT, text), ([0], [1]))

    def as_told(self, text):
        self.assertEqual(ask_true(text) != [-1], is_text(text), text)
        self.assertEqual(ask_least(text) != [-1], is_text(text), text)
        self.assertEqual(ask_holds(text, V) != [-1], is_text(text), text)
        self.assertEqual(ask_same(text, SHORT) != [-1], is_text(text), text)
        self.assertEqual(ask_same(SHORT, text) != [-1], is_text(text), text)

    def refused_bytes(self, handed):
        self.assertEqual(is_true(handed), [-1])
        self.assertEqual(least(handed), [-1])
        self.assertEqual(holds(handed, list(V)), [-1])
        self.assertEqual(same(handed, as_bytes(SHORT)), [-1])
        self.assertEqual(same(as_bytes(SHORT), handed), [-1])


class Numbers(Asking):
    def test_one_and_two_digits(self):
        for number in range(100):
            self.assertEqual(ask_true(f"[{number}<{number}+1]"), [1])

    def test_three_digits(self):
        self.refused("[100=100]", "[0=100]", "[999<0]", "[1+100=0]", "[100%2=0]", "[123=0]", "[0<1234]")

    def test_zero_in_front(self):
        self.refused("[00=0]", "[0=00]", "[01=1]", "[1=01]", "[05+1=6]", "[1+05=6]", "[000=0]", "[09%2=1]")

    def test_digits_before_an_unknown(self):
        self.taken("Ax[1x=x]", "Ax[9x=x]", "Ax[x=5x]")
        self.refused("Ax[0x=0]", "Ax[10x=0]", "Ax[11x=0]", "Ax[99x=0]", "Ax[01x=0]", "Ax[0=0x]", "Ax[x%2x=0]")

    def test_what_a_part_is_not(self):
        self.refused("Ax[x2=0]", "Ax[xx=0]", "AxAy[xy=0]", "Ax[2*x=0]", "Ax[2xx=0]", "Ax[x-1=0]", "Ax[-x=0]", "[-1<0]",
                     "[w=0]", "[X=0]", "Ax[(x)=0]", "[1.5=1]")


class Sums(Asking):
    def test_no_part(self):
        self.refused("[=0]", "[0=]", "[<]", "[]", "[=]", "[%2=0]", "[0<]", "[<0]")

    def test_plus_out_of_place(self):
        self.refused("[+0=0]", "[0+=0]", "[0++0=0]", "[0=+0]", "[0=0+]", "[+=+]", "[0+%2=0]", "[0%+2=0]")


class Rests(Asking):
    def test_divisor_and_rest(self):
        for divisor in range(100):
            for rest in range(12):
                text = f"[7%{divisor}={rest}]"
                if 2 <= divisor <= 9 and rest < divisor:
                    self.assertEqual(ask_true(text), [int(7 % divisor == rest)])
                else:
                    self.refused(text)

    def test_zero_in_front(self):
        self.refused("[7%02=1]", "[7%2=01]", "[7%3=00]", "[7%09=7]")

    def test_other_signs_there(self):
        self.refused("[7%x=1]", "[7%2=x]", "[7%2<1]", "[7%2]", "[7%2=]", "[7%=1]", "[7%21]", "[7%3=1+1]", "[7%1+1=1]",
                     "[1=7%2]", "[7%3%2=1]", "[7%2=1=1]", "Ax[x%2x=0]", "[7<9%2=0]")


class Claims(Asking):
    def test_signs_between(self):
        self.refused("[0]", "[00]", "[0>0]", "[0==0]", "[0<=0]", "[0=<0]", "[0!0]", "[0&0]", "[0<0<1]", "[0=0=0]", "[0!=0]")

    def test_brackets(self):
        self.refused("0=0", "[0=0", "0=0]", "[[0=0]]", "]0=0[", "(0=0)", "[0=0)", "{0=0}", "[(0=0)]", "[0=[0]]")


class Joins(Asking):
    def test_parentheses(self):
        self.refused("[0=0]&[0=0]", "([0=0]&[0=0]", "[0=0]&[0=0])", "([0=0])", "()", "(([0=0]&[0=0]))",
                     "([0=0]&[0=0]&[0=0])", "([0=0]|[0=0]|[0=0])", ")[0=0]&[0=0](", "[[0=0]&[0=0]]")

    def test_signs_between(self):
        self.refused("([0=0][0=0])", "([0=0]<[0=0])", "([0=0]=[0=0])", "([0=0]+[0=0])", "([0=0]![0=0])", "([0=0]&&[0=0])",
                     "([0=0]%[0=0])", "(&[0=0])", "([0=0]&)", "(&)", "([0=0]A[0=0])", "([0=0],[0=0])")

    def test_not(self):
        self.refused("!", "!!", "[0=0]!", "([0=0]!&[0=0])", "!()", "[!0=0]", "[0!=0]", "!x[0=0]")


class Binders(Asking):
    def test_unknowns(self):
        self.taken("Ax[0=0]", "Ay[0=0]", "Az[0=0]", "Ex[0=0]", "Ey[0=0]", "Ez[0=0]")
        self.refused("A[0=0]", "E[0=0]", "Aw[0=0]", "AX[0=0]", "A1[0=0]", "A2x[0=0]", "Axy[0=0]", "AA[0=0]", "AEx[0=0]",
                     "ax[0=0]", "ex[0=0]", "x[0=0]", "xA[0=0]", "Ax,[0=0]", "A(x)[0=0]", "A![0=0]")

    def test_nothing_inside(self):
        self.refused("Ax", "A", "AxEy", "Ax()", "(Ax&[0=0])", "([0=0]&Ax)", "Ax!", "[Ax]", "[Ax=0]")


class Bytes(Asking):
    def test_one_byte(self):
        for byte in range(256):
            self.refused_bytes([byte])

    def test_blanks_and_others_anywhere(self):
        for text in TEXTS:
            for place in range(len(text) + 1):
                for byte in (0, 9, 10, 13, 32, 44, 127, 128, 160, 255):
                    handed = as_bytes(text)
                    handed.insert(place, byte)
                    self.refused_bytes(handed)

    def test_each_byte_in_each_place(self):
        for text in TEXTS:
            for place in range(len(text)):
                for byte in range(256):
                    handed = as_bytes(text)
                    handed[place] = byte
                    self.as_told(bytes(handed).decode("latin-1"))


class Ends(Asking):
    def test_broken_off(self):
        for text in TEXTS:
            for end in range(len(text)):
                self.refused(text[:end])

    def test_front_gone(self):
        for text in TEXTS:
            for start in range(1, len(text)):
                self.as_told(text[start:])

    def test_something_behind(self):
        for text in TEXTS:
            for byte in range(256):
                self.refused_bytes(as_bytes(text) + [byte])
            self.refused(text + text, text + "&" + text, text + " ")

    def test_no_bytes(self):
        self.refused_bytes([])


class WhichRefusal(Asking):
    def test_no_text_comes_before_free(self):
        self.refused("[x=0", "[x=0]]", "([x=0]&[y=0]", "[x=00]", "[x%1=0]", "AxAyAzAx[x=0]", "AxExAxEx[y=0]", "[x=0] ",
                     "[x+y+z=100]", "!x")

    def test_free_comes_where_it_is_a_text(self):
        self.assertEqual(ask_true("(Ex[x=0]&[y=0])"), [-3])
        self.assertEqual(ask_true("[x=0]"), [-3])
        self.assertEqual(ask_least("(Ex[x=0]&[y=0])"), [-3])
        self.assertEqual(ask_least("[x=0]"), [1, 0])
        self.assertEqual(ask_holds("(Ex[x=0]&[y=0])", V), [1])
        self.assertEqual(ask_holds("[x=0]", V), [0])
        self.assertEqual(ask_same("(Ex[x=0]&[y=0])", "[y=0]"), [1])
        self.assertEqual(ask_same("[x=0]", SHORT), [0])


class Changed(Asking):
    def test_texts_with_some_bytes_changed(self):
        chance = random.Random(1)
        signs = "[]()!&|><=%+AExyz" + NUMBERS
        for _ in range(4000):
            letters = list(chance.choice(TEXTS))
            for _ in range(chance.randint(1, 3)):
                place = chance.randrange(len(letters))
                way = chance.randrange(3)
                if way == 0:
                    letters[place] = chance.choice(signs)
                elif way == 1:
                    letters.insert(place, chance.choice(signs))
                elif len(letters) > 1:
                    letters.pop(place)
            self.as_told("".join(letters))


if __name__ == "__main__":
    unittest.main()
