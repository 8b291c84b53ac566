"""Promise 1: is_true, ordinary inputs and the edges that the document names."""

import itertools
import unittest

from helper import as_bytes, ask_true, seal, with_low_limit
from wholesays.sentences import is_true


class Asking(unittest.TestCase):
    def answers(self, answer, *texts):
        for text in texts:
            with self.subTest(text=text):
                got = ask_true(text)
                self.assertEqual(got, [answer])
                self.assertIs(type(got), list)
                self.assertIs(type(got[0]), int)


class Claims(Asking):
    def test_less(self):
        self.answers(1, "[0<1]", "[9<10]", "[98<99]", "[1+2<4]", "[0<0+1]", "[99+99<99+99+1]")
        self.answers(0, "[1<0]", "[0<0]", "[10<9]", "[4<1+3]", "[99<99]", "[5<4]")

    def test_equal(self):
        self.answers(1, "[0=0]", "[7=7]", "[10+2=12]", "[99+1=50+50]", "[1+2+3+4=10]", "[0+0=0]")
        self.answers(0, "[7=8]", "[8=7]", "[10+2=13]", "[1=10]", "[12=21]", "[0=1]")

    def test_rest(self):
        self.answers(1, "[7%3=1]", "[0%2=0]", "[99%9=0]", "[99+1%9=1]", "[5+5+5%4=3]", "[1%2=1]", "[8%9=8]")
        self.answers(0, "[7%3=2]", "[0%2=1]", "[99%9=8]", "[99+1%9=0]", "[5+5+5%4=0]", "[1%2=0]", "[8%9=7]")

    def test_every_divisor_and_rest(self):
        for number, divisor, rest in itertools.product((0, 1, 8, 35, 99), range(2, 10), range(9)):
            if rest < divisor:
                self.answers(int(number % divisor == rest), f"[{number}%{divisor}={rest}]")

    def test_the_whole_sum_is_divided(self):
        self.answers(1, "[3+4%5=2]", "Ax[x+x%2=0]", "Ax[9x+9x+3%9=3]")


class Joins(Asking):
    def test_all_four_cases(self):
        so = {True: "[0=0]", False: "[0=1]"}
        for first, second in itertools.product((True, False), repeat=2):
            a, b = so[first], so[second]
            self.answers(int(first and second), f"({a}&{b})")
            self.answers(int(first or second), f"({a}|{b})")
            self.answers(int(second or not first), f"({a}>{b})")

    def test_not(self):
        self.answers(1, "![0=1]", "!![0=0]", "!([0=0]&[0=1])", "!Ex[x<0]")
        self.answers(0, "![0=0]", "!![0=1]", "!([0=0]|[0=1])", "!Ax[0<x+1]")

    def test_which_stands_in_which(self):
        self.answers(1, "([0=0]|([0=0]&[0=1]))", "(([0=1]>[0=0])>[0=0])", "([0=1]>([0=0]>[0=1]))")
        self.answers(0, "(([0=0]|[0=0])&[0=1])", "(([0=1]>[0=0])>[0=1])", "(![0=0]&[0=0])")


class OneDeep(Asking):
    def test_all(self):
        self.answers(1, "Ax[x<x+1]", "Ay[0<y+1]", "Az([z%2=0]|[z%2=1])", "Ax([x<50]|[49<x])", "Ax[1=1]", "Ax[x=x]")
        self.answers(0, "Ax[0<x]", "Ay[y<99]", "Az([z%2=0]|[z%3=1])", "Ax([x<50]|[50<x])", "Ax[1=0]", "Ax![x=99]")

    def test_some(self):
        self.answers(1, "Ex[x=0]", "Ey[9y=99]", "Ez[98<z]", "Ex([x%9=8]&[x%8=1])", "Ex[2x=x]", "Ex[99+99+99=3x]")
        self.answers(0, "Ex[x<0]", "Ey[9y=98]", "Ez[2z=99]", "Ex([x%9=8]&[x%3=1])", "Ex[x=x+1]", "Ex[1=0]")

    def test_numbers_start_at_0(self):
        self.answers(0, "Ex[x+1=0]", "Ax![x=0]", "Ex[x+99<99]")
        self.answers(1, "Ax([x=0]|[0<x])", "Ex[x+99=99]")

    def test_each_digit_before_an_unknown(self):
        for digit in range(1, 10):
            self.answers(1, f"Ex[{digit}x={digit * 11}]", f"Ax[{digit}x<{digit}x+1]")
        for digit in range(2, 10):
            self.answers(1, f"Ax[{digit}x%{digit}=0]")
            self.answers(0, f"Ex[{digit}x={digit * 10 + 1}]", f"Ex[{digit}x%{digit}=1]")

    def test_many_parts(self):
        self.answers(1, "Ex[9x+9x+9x+9x+9x+9x+9x+9x+9x+9x+9x+9x+9x+9x+9x=99+36+0+0]")
        self.answers(0, "Ex[9x+9x+9x+9x+9x+9x+9x+9x+9x+9x+9x+9x+9x+9x+9x=99+35+0+0]")
        self.answers(1, "Ex[x=99+99+99+99+99+99+99+99+99+99+99+99+99+99+99+99+99+99]")

    def test_rests_that_first_meet_far_out(self):
        # The first of the three rests is at 503, of all four at 2519.
        self.answers(1, "Ex(([x%9=8]&[x%8=7])&([x%7=6]&[x<99+99+99+99+99+9]))")
        self.answers(0, "Ex(([x%9=8]&[x%8=7])&([x%7=6]&[x<99+99+99+99+99+8]))")
        self.answers(1, "Ex(([x%9=8]&[x%8=7])&([x%7=6]&[x%5=4]))", "Ex(([x%9=8]&[x%8=7])&([x%7=6]&([x%5=4]&[99<x])))")
        self.answers(0, "Ex(([x%9=8]&[x%8=7])&([x%7=6]&([x%5=4]&[x<99])))", "Ax!(([x%9=8]&[x%8=7])&([x%7=6]&[x%5=4]))")

    def test_several_side_by_side(self):
        self.answers(1, "(Ax[x<x+1]&Ex[x=9])", "((Ax[x=x]&Ey[y=5])&Ez[z%7=6])", "(Ex[x<0]>Ax[x<0])")
        self.answers(0, "(Ax[x<x+1]&Ex[x<0])", "((Ax[x=x]&Ey[y=5])&Az[z%7=6])", "(Ax[x=x]>Ex[x<x])")


class TwoDeep(Asking):
    def test_what_it_stands_for(self):
        self.answers(1, "AxEy([x=2y]|[x=2y+1])", "!ExAy([y<x]|[y=x])", "!ExAy([x=y]|[y<x])", "AxEy[x<y]")
        self.answers(0, "AxEy[x=2y]", "AxEy[x=2y+1]", "ExAy([y<x]|[y=x])", "ExAy[y<x]")

    def test_order_of_all_and_some(self):
        self.answers(1, "ExAy([x<y]|[x=y])", "AxEy[x=y]", "EyAx[y<x+1]", "ExEy[x<y]", "AxAy([x<y]|([y<x]|[x=y]))")
        self.answers(0, "ExAy[x<y]", "ExAy[x=y]", "EyAx[y<x]", "ExEy([x<y]&[y<x])", "AxAy([x<y]|[y<x])")

    def test_twice_and_three_times(self):
        self.answers(1, "AxAy([3x=2y]>[x%2=0])", "AxAy([3x=2y]>[y%3=0])", "ExEy([3x=2y+1]&[y%4=1])",
                     "Ax([1<x]>Ey([x=2y]|[x=2y+3]))", "AxEy(([x=3y]|[x=3y+1])|[x=3y+2])")
        self.answers(0, "AxAy([3x=2y]>[x%3=0])", "AxAy([3x=2y]>[y%2=0])", "ExEy([3x=3y+1]&[y%4=1])",
                     "Ax([0<x]>Ey([x=2y]|[x=2y+3]))", "AxEy([x=3y]|[x=3y+1])")

    def test_sixty(self):
        self.answers(1, "AxEy([3y<2x+60]&[2x+57<3y+1])", "ExAy[y<y+x+60]", "ExAy([y<60]|[y+x=y+60])",
                     "ExEy(([3x=60]&[3y=x+58])&[y%4=2])")
        self.answers(0, "AxEy([3y<2x+60]&[2x+57<3y])", "AxAy[x<y+60]", "ExAy([y<59]|[y+x=60])",
                     "ExEy(([3x=60]&[3y=x+58])&[y%4=1])")

    def test_gap_that_gets_narrow(self):
        # From x to (2x+60)/3 there is one number alone if x is 54, 55 or 56: just x+1.
        for rest, answer in enumerate((1, 1, 0, 1)):
            self.answers(answer, f"Ex(Ey([x<y]&[3y<2x+60])&Ay(([x<y]&[3y<2x+60])>[y%4={rest}]))")

    def test_more_than_one_inside(self):
        self.answers(1, "Ax(Ey[y<x+1]&Ez[x<z])", "Ex(Ay([x<y]|[x=y])&Ez[z=x])", "Ax(Ey[x=2y]|Ez[x=2z+1])")
        self.answers(0, "Ax(Ey[y<x]&Ez[x<z])", "Ex(Ay[x<y]&Ez[z=x])", "Ax(Ey[x=2y]&Ez[x=2z+1])")

    def test_one_inside_beside_claims(self):
        self.answers(1, "Ax([x%2=1]|Ey[x=2y])", "Ex([x=6]&Ey([2y=x]&[y%2=1]))", "Ax(Ey[x=3y]>[3x%3=0])")
        self.answers(0, "Ax([x%2=0]|Ey[x=2y])", "Ex([x=6]&Ey([2y=x]&[y%2=0]))", "Ax(Ey[x=3y]>[2x%4=0])")


class BoundTwiceOver(Asking):
    def test_outside_does_not_count_inside(self):
        self.answers(1, "AxEx[x=5]", "ExAx[x<x+1]", "Ax([x<5]|Ex[x=9])", "Ex([x=5]&Ax[x<x+1])")
        self.answers(0, "ExAx[x=5]", "AxEx[x<x]", "Ex([x=5]&Ax[x=5])")

    def test_outside_counts_again_behind(self):
        self.answers(1, "Ex([x=5]&(Ex[x=7]&[x=5]))", "Ax(Ax[x=x]>[0<x+1])")
        self.answers(0, "Ex([x=5]&(Ex[x=7]&[x=7]))", "Ax(Ex[x=0]>[x=0])")


class FreeUnknowns(Asking):
    def test_free(self):
        self.answers(-3, "[x=0]", "[0<y]", "[z%2=0]", "[1x=0]", "![9z<0]", "([0=0]&[y=1])", "[0+0+x=0]", "[0=0+x]")

    def test_free_though_it_makes_no_difference(self):
        self.answers(-3, "[x=x]", "[y<y+1]", "[2z%2=0]", "([0=0]|[x=0])", "([0=1]>[y=1])")

    def test_another_is_bound(self):
        self.answers(-3, "Ax[y=y]", "Ey[x=y]", "Az(Ex[x=z]&[y=0])", "AxAxAx[y=0]", "AxEyAx[x+y=z]")

    def test_free_in_one_place_and_bound_in_another(self):
        self.answers(-3, "(Ax[x=x]&[x=0])", "([x=0]&Ax[x=x])", "Ax(Ey[x=y]&[y=0])", "(Ex[x=0]>Ey[x=y])",
                     "(Ax[x=0]|(Ey[y=0]|[x<9]))")

    def test_bound(self):
        self.answers(1, "Ax[x=x]", "AxEy[x=y]", "(Ex[x=0]&Ex[x=1])", "Ax!!!![x=x]", "Ax([0=0]|([0=1]|[x=0]))")


class Lengths(Asking):
    def test_64_bytes(self):
        texts = ("!" * 59 + "[0=1]", "!" * 58 + "[1<10]", "[10=5+5" + "+0" * 28 + "]", "Ax" + "!" * 56 + "[x=1x]")
        for text in texts:
            self.assertEqual(len(text), 64)
        self.answers(1, *texts)

    def test_65_and_more_bytes(self):
        self.answers(-2, "!" * 60 + "[0=0]", "!" * 95 + "[0=0]", "[0=0" + "+0" * 30 + "]")
        self.answers(-2, "!" * 65, " " * 65, "!" * 100, "\xff" * 100, "\x00" * 65)

    def test_no_bytes(self):
        self.answers(-1, "")

    def test_more_than_64_bytes_comes_first(self):
        self.answers(-2, "!" * 61 + "[x=0]", "!" * 62 + "[x=0", "Ax" * 33, "[" * 65, "[x=0" + "+0" * 40 + "]")


class Counts(Asking):
    def test_three_of_all_and_some(self):
        self.answers(1, "((Ax[x=x]&Ay[y=y])&Ez[z=9])", "(AxEy[x=y]&Ez[z=0])", "(Ax[x=x]&(Ax[x=x]&Ax[x=x]))")
        self.answers(-3, "AxAyEx[z=0]", "AxAxAx[y=0]")

    def test_four_of_all_and_some(self):
        self.answers(-1, "AxAxAxAx[x=x]", "ExExExEx[x=x]", "AxExAxEx[x=x]", "((Ax[x=x]&Ay[y=y])&(Ez[z=9]&Ex[x=0]))",
                     "AxExAxEx[y=0]")

    def test_eight_claims(self):
        eight = "(" * 7 + "[0=0]" + "&[0=0])" * 7
        self.assertLessEqual(len(eight), 64)
        self.answers(1, eight)
        self.answers(0, "(" * 7 + "[0=0]" + "&[0=0])" * 6 + "&[0=1])")

    def test_nine_claims(self):
        # Nine whole claims and what joins them are 69 bytes; so in 64 they break off.
        nine = "(" * 8 + "[0=0]" + "&[0=0])" * 8
        self.answers(-2, nine)
        self.answers(-1, nine[:64], "[0=0]" * 9, "[" * 9, "[" * 64)


class Nesting(Asking):
    def test_as_far_as_64_bytes_go(self):
        self.answers(1, "!" * 56 + "Ax[x=x]", "Ax" + "!" * 56 + "[x=x]", "!" * 57 + "Ex[x<x]", "!" * 28 + "Ax" + "!" * 28 + "[x=x]")
        self.answers(0, "!" * 57 + "Ax[x=x]", "Ax" + "!" * 57 + "[x=x]")
        self.answers(-1, "(" * 64, "!" * 64, "(" * 59 + "[0=0]", "(!" * 29 + "[0=0]", "[0=0]" + ")" * 59)

    def test_by_loops(self):
        texts = [as_bytes(text) for text in ("!" * 59 + "[0=1]", "Ax" + "!" * 56 + "[x=x]", "AxEy" + "!" * 54 + "[x=y]")]
        self.assertEqual(with_low_limit(lambda: [is_true(text) for text in texts]), [[1], [1], [1]])


class HandedIn(Asking):
    TEXTS = ("AxEy([x=2y]|[x=2y+1])", "ExAy[y<x]", "Ax[x=", "[x=0]", "", "!" * 65, "((Ax[x=x]&Ay[y=y])&Ez[z=9])")

    def test_stays_as_it_was(self):
        for text in self.TEXTS:
            handed = as_bytes(text)
            is_true(handed)
            self.assertEqual(handed, as_bytes(text))

    def test_is_not_changed_for_a_while_either(self):
        for text in self.TEXTS:
            self.assertEqual(is_true(seal(text)), ask_true(text))

    def test_second_call_answers_as_the_first(self):
        first = [ask_true(text) for text in self.TEXTS]
        self.assertEqual(first, [[1], [0], [-1], [-3], [-1], [-2], [1]])
        self.assertEqual([ask_true(text) for text in reversed(self.TEXTS)], first[::-1])
        self.assertEqual([ask_true(text) for text in self.TEXTS], first)

    def test_what_is_given_back_is_new_each_time(self):
        for text in self.TEXTS:
            answer = ask_true(text)
            kept = list(answer)
            answer.append(7)
            self.assertEqual(ask_true(text), kept)


if __name__ == "__main__":
    unittest.main()
