"""Promise 2: least, ordinary inputs and the edges that the document names."""

import itertools
import unittest

from helper import as_bytes, ask_least, ask_true, seal, with_low_limit
from wholesays.sentences import least


class Asking(unittest.TestCase):
    def answers(self, answer, *texts):
        for text in texts:
            with self.subTest(text=text):
                got = ask_least(text)
                self.assertEqual(got, answer)
                self.assertIs(type(got), list)
                for number in got:
                    self.assertIs(type(number), int)

    def finds(self, number, *texts):
        self.answers([1, number], *texts)

    def finds_none(self, *texts):
        self.answers([0], *texts)

    def refuses(self, refusal, *texts):
        self.answers([refusal], *texts)


class Claims(Asking):
    def test_less(self):
        self.finds(0, "[x<1]", "[x<99]", "[x<x+1]", "[0<x+1]", "[2x<x+1]")
        self.finds(1, "[0<x]", "[x<2x]", "![x=0]", "![2x<1]")
        self.finds(50, "[99<2x]", "![x<50]", "[49<x]", "[x+49<2x]")
        self.finds_none("[x<0]", "[x<x]", "[x+1<x]", "[2x<x]", "![x<x+1]")

    def test_equal(self):
        self.finds(0, "[x=0]", "[x=x]", "[x=2x]", "[99+x=99]", "![x=1]")
        self.finds(7, "[x=7]", "[7=x]", "[3x=21]", "[2x+1=x+8]", "[9x=x+56]")
        self.finds(99, "[x=99]", "[9x=99+99+99+99+99+99+99+99+99]")
        self.finds_none("[2x=7]", "[x=x+1]", "[x+1=0]", "[9x=98]", "![x=x]")

    def test_every_divisor_and_rest(self):
        for divisor in range(2, 10):
            for rest in range(divisor):
                self.finds(rest, f"[x%{divisor}={rest}]", f"[x+9+{divisor - 9 % divisor}%{divisor}={rest}]")
                self.finds(int(rest == 0), f"![x%{divisor}={rest}]")
                self.answers([1, 0] if rest == 0 else [0], f"[{divisor}x%{divisor}={rest}]")

    def test_rests_of_so_many_times(self):
        for times, divisor in itertools.product(range(1, 10), range(2, 10)):
            for rest in range(divisor):
                found = [number for number in range(divisor) if times * number % divisor == rest]
                self.answers([1, found[0]] if found else [0], f"[{times}x%{divisor}={rest}]")


class Joins(Asking):
    def test_both_and_either(self):
        self.finds(5, "([4<x]&[x<9])", "([x=5]|[x=9])", "([x=9]|[x=5])", "([x=5]&![x=9])")
        self.finds_none("([x<5]&[5<x])", "([x=5]&[x=9])", "([x<0]|[x=x+1])")

    def test_implies(self):
        self.finds(0, "([x=5]>[x=9])", "([x<0]>[x<0])", "([0<x]>[99<x])")
        self.finds(9, "([x<9]>[x<0])", "(![x=9]>[9<x])", "(([x<9]|[9<x])>[x=50])")
        self.finds_none("([x=x]>[x<0])", "!([x=5]>[x<9])")

    def test_not(self):
        self.finds(0, "!!!![x=0]", "!([x=5]&[x=x])", "!([0<x]|[x=9])")
        self.finds(10, "!([x<10]|[x=11])", "!!![x<10]")


class WhereOnlySomeWillDo(Asking):
    def test_behind_a_change(self):
        self.finds(51, "([50<x]&[x%9=6])", "(![x<50]&([x%2=1]&![x=49]))")
        self.finds(56, "([50<x]&[x%8=0])", "([x%7=0]&([50<x]&[x%4=0]))")
        self.finds(53, "(([50<x]&![x=51])&![x=52])", "([x<0]|[52<x])")

    def test_first_gap_between_two_changes(self):
        self.finds(31, "(([x<30]|[x=30])>[x<0])", "([30<x]&[x<32])")
        self.finds(35, "(([30<x]&[x<60])&[x%6=5])", "([30<x]&([x<60]&[x%6=5]))")
        self.finds(60, "(([x<30]|[59<x])&([29<x]&[x%6=0]))", "(([5<x]>[59<x])&([5<x]&[x%6=0]))")
        self.finds_none("(([30<x]&[x<35])&[x%6=5])", "([30<x]&[x<31])")

    def test_where_sums_are_equal(self):
        self.finds(33, "([3x=99]&[x%2=1])", "([3x=99]|[x=34])", "([x=34]|[3x=99])")
        self.finds_none("([3x=99]&[x%2=0])", "([3x=99]&[2x=65])")

    def test_of_one_rest(self):
        self.finds(8, "([x%9=8]&[x%8=0])", "([x%9=8]&[x%2=0])")
        self.finds(71, "([x%9=8]&[x%8=7])", "!([x%9=8]>![x%8=7])")
        self.finds_none("([x%9=8]&[x%3=1])", "([x%2=0]&[x%4=3])", "([x%6=1]&[x%8=2])")

    def test_least_comes_before_all_that_stand_in_front(self):
        self.finds(3, "([x=90]|([x=60]|([x=3]|[x=30])))", "([98<x]|([x%9=3]|[x=50]))")


class GreatNumbers(Asking):
    def test_rests_that_meet_far_out(self):
        self.finds(503, "(([x%9=8]&[x%8=7])&[x%7=6])")
        self.finds(2519, "(([x%9=8]&[x%8=7])&([x%7=6]&[x%5=4]))")
        self.finds(2520, "((([x%9=0]&[x%8=0])&([x%7=0]&[x%5=0]))&[0<x])")
        self.finds(98 + 2520, "(([x%9=8]&[x%8=2])&(([x%7=0]&[x%5=3])&[98<x]))")
        self.finds(494 + 2520, "(([x%9=8]&[x%8=6])&(([x%7=4]&[x%5=4])&[98+99+99+99+99<x]))")

    def test_great_sums(self):
        nineties = "+".join(["99"] * 20)
        self.finds(20 * 99, f"[x={nineties}]", f"![x<{nineties}]")
        self.finds(20 * 99 + 1, f"[{nineties}<x]")
        self.finds(10 * 99, f"[2x={nineties}]")
        self.finds(20 * 11, f"[9x={nineties}]")
        self.finds_none(f"[7x={nineties}]")

    def test_x_many_times(self):
        self.finds(99 + 99, "[9x+9x=8x+9x+99+99]", "[8x+9x+99+98<9x+9x]")
        self.finds(11, "[" + "9x+" * 9 + "9x=" + "8x+" * 9 + "99+99]")
        self.finds_none("[" + "9x+" * 9 + "9x=" + "8x+" * 9 + "99+98]")


class OneDeep(Asking):
    def test_some(self):
        self.finds(0, "Ey[x=2y]", "Ez[x<z]", "Ey[x=y]", "Ey[3y=2x]")
        self.finds(1, "Ey[x=2y+1]", "Ey[y<x]", "Ez[2z+1=3x]")
        self.finds(60, "Ey[x=y+60]", "Ez([z=20]&[x=3z])", "Ey([59<y]&[y+y=2x])")
        self.finds_none("Ey[2x=2y+1]", "Ez[x+z<z]", "Ey([y<x]&[x<y+1])", "Ey[x+y+1=0]")

    def test_all(self):
        self.finds(0, "Ay[x<x+y+1]", "Az([x<z]|[x=z])", "Ay![x=y+1]")
        self.finds(7, "Ay([y<7]>[y<x])", "Az([6+z<z+x]|[z<0])", "Ay!([x<7]&[y=y])")
        self.finds_none("Ay[y<x]", "Az[x=z]", "Ay([x<y]|[y<x])")

    def test_rests(self):
        self.finds(4, "Ey([x=2y]&[y%4=2])", "Ay([x=y]>([y%4=0]&[3<y]))")
        self.finds(11, "Ey([x=y]&([y%4=3]&[y%3=2]))", "Ey([y%4=3]&([x=y]&[x%3=2]))", "Ey([x=3y+2]&[x%4=3])")
        self.finds(71, "Ey(([x=y]&[60<y])&([y%4=3]&[y%3=2]))", "Ey([x=3y+2]&([60<x]&[x%4=3]))")

    def test_beside_claims_of_x(self):
        self.finds(6, "([5<x]&Ey[x=2y])", "(Ay[y<y+x]&([5<x]&Ez[x=3z]))", "!([x<5]|Ey[x=2y+1])")
        self.finds(61, "([60<x]&Ey[x=2y+1])", "(Ey[x=y+60]&![x=60])")

    def test_several_side_by_side(self):
        self.finds(15, "((Ey[x=3y]&Ez[x=2z+1])&[9<x])", "((Ey[x=3y]&Ey[x=2y+1])&[9<x])")
        self.finds(6, "((Ey[x=3y]&Ez[x=2z])&(Ay[y<y+x]&[0<x]))")

    def test_gap_that_gets_narrow(self):
        # From x to (2x+60)/3 there is one number alone if x is 54, 55 or 56: just x+1.
        for rest, answer in enumerate(([1, 55], [1, 56], [0], [1, 54])):
            self.answers(answer, f"(Ey([x<y]&[3y<2x+60])&Ay(([x<y]&[3y<2x+60])>[y%4={rest}]))")


class NotFree(Asking):
    def test_no_unknown(self):
        self.finds(0, "[0=0]", "[7%3=1]", "([0=1]>[0=2])", "![1<0]")
        self.finds_none("[0=1]", "[7%3=2]", "([0=0]>[0=2])", "![0<1]")

    def test_x_is_bound(self):
        self.finds(0, "Ex[x=5]", "Ax[x<x+1]", "Ex([x%9=8]&[x%8=7])", "!Ax[x=0]", "(Ex[x=5]&Ax[x=x])")
        self.finds_none("Ex[x<0]", "Ax[x=5]", "Ex([x%9=8]&[x%3=1])", "!Ex[x=0]", "(Ex[x=5]&Ax[x=5])")

    def test_others_are_bound(self):
        self.finds(0, "Ey[y=5]", "(Ey[9y=99]&Az[z=z])", "Ey(([y%9=8]&[y%8=7])&([y%7=6]&[y%5=4]))")
        self.finds_none("Ay[y=5]", "(Ey[9y=98]|Az[z=5])", "Ey(([y%9=8]&[y%8=7])&([y%7=6]&[y%3=1]))")

    def test_two_deep(self):
        self.finds(0, "AxEy([x=2y]|[x=2y+1])", "!ExAy([y<x]|[y=x])", "ExEy(([3x=60]&[3y=x+58])&[y%4=2])")
        self.finds_none("AxEy[x=2y]", "EyAz([z<y]|[z=y])", "ExEy(([3x=60]&[3y=x+58])&[y%4=1])")

    def test_tells_what_is_true(self):
        for text in ("[0=0]", "[0=1]", "Ex[9x=99]", "Ex[9x=98]", "AxEy[x<y]", "ExAy[y<x]", "AyAz([3y=2z]>[y%2=0])"):
            self.answers([1, 0] if ask_true(text) == [1] else [0], text)


class BoundInside(Asking):
    def test_outside_does_not_count_inside(self):
        self.finds(9, "([x=9]&Ex[x=5])", "(Ex[x=5]&[x=9])", "([8<x]&Ax[x<x+1])", "(Ax[0<x+1]&[8<x])")
        self.finds_none("([x=9]&Ax[x=9])", "(Ax[x=9]&[x=9])", "([x=9]&Ex[x<0])")

    def test_outside_counts_again_behind(self):
        self.finds(9, "(Ex[x=5]&([x=9]&Ex[x=7]))", "(([x=9]&Ex[x=7])&[x=9])", "(!Ax[x=0]&!([x<9]|Ex[x<0]))")
        self.finds_none("([x=9]&(Ex[x=7]&[x=7]))")

    def test_beside_another_that_is_bound(self):
        self.finds(8, "((Ey[x=2y]&Ex[x=1])&[6<x])", "(Ex[x=1]&(Ey[x=2y]&[6<x]))", "((Ex[2x=4]&Ey[x=4y])&[4<x])")


class FreeUnknowns(Asking):
    def test_free(self):
        self.refuses(-3, "[y=0]", "[0<z]", "[x=y]", "[x+z%2=0]", "![9z<0]", "([x=0]&[y=1])", "[0=0+y]", "[x+y=z]")

    def test_free_though_it_makes_no_difference(self):
        self.refuses(-3, "[y=y]", "[z<z+1]", "[2y%2=0]", "([x=x]|[z=0])", "([0=1]>[y=1])")

    def test_another_is_bound(self):
        self.refuses(-3, "Ax[y=y]", "Ey[x=z]", "Az(Ex[x=z]&[y=0])", "AxAxAx[y=0]", "AxEyAx[x+y=z]", "Ez[z=y]")

    def test_free_in_one_place_and_bound_in_another(self):
        self.refuses(-3, "(Ay[y=y]&[y=0])", "([z=0]&Az[z=z])", "Ax(Ey[x=y]&[y=0])", "(Ey[x=y]>Ez[z=y])")

    def test_only_x_is_free(self):
        self.finds(0, "[x=0]", "(Ey[y=x]&Az[x<x+z+1])", "(Ax[x=x]&[x=0])", "Ey(Ez[y=z]&[x=y])")


class Lengths(Asking):
    def test_64_bytes(self):
        texts = {"!" * 59 + "[x=0]": 1, "!" * 58 + "[x=10]": 10, "[10+x=5+4" + "+0" * 27 + "]": None,
                 "[10=x" + "+0" * 29 + "]": 10, "Ey" + "!" * 56 + "[x=1y]": 0}
        for text, number in texts.items():
            self.assertEqual(len(text), 64)
            self.answers([0] if number is None else [1, number], text)
        self.refuses(-1, "!" * 60 + "[x=0", "[x=5+5" + "+0" * 28 + "+]", "!" * 64, "\xff" * 64)

    def test_65_and_more_bytes(self):
        self.refuses(-2, "!" * 60 + "[x=0]", "!" * 95 + "[0=0]", "[10=1x" + "+0" * 29 + "]", "[x=0" + "+0" * 30 + "]")
        self.refuses(-2, "!" * 65, " " * 65, "!" * 100, "\xff" * 100, "\x00" * 65)

    def test_no_bytes(self):
        self.refuses(-1, "")

    def test_more_than_64_bytes_comes_first(self):
        self.refuses(-2, "!" * 61 + "[y=0]", "!" * 62 + "[z=0", "Ax" * 33, "[" * 65, "[y=0" + "+0" * 40 + "]")


class WhichRefusal(Asking):
    def test_no_text_comes_before_free(self):
        self.refuses(-1, "[y=0", "[z=0]]", "([x=0]&[y=0]", "[y=00]", "[z%1=0]", "AxExAxEx[y=0]", "[x+y+z=100]", "!y")

    def test_no_text(self):
        self.refuses(-1, "x", "[x]", "[x=0", "[x=01]", "[x%1=0]", "[x%9=9]", "[0x=0]", "([x=0])", "[x=0]&[x=0]", "[x = 0]",
                     "A[x=0]", "[X=0]", "[x=0]\n", "[x-1=0]")


class Counts(Asking):
    def test_three_of_all_and_some(self):
        self.finds(2, "((Ax[x=x]&Ay[y<y+x])&Ez[x=z+2])", "(Ey[x=y+2]&(Ey[x=y+1]&Ay[y<y+x]))")
        self.finds(0, "(AxEy[x=y]&Ez[z=0])", "(Ax[x=x]&(Ax[x=x]&Ax[x=x]))")
        self.refuses(-3, "AxAyEx[z=0]", "AxAxAx[y=0]")

    def test_four_of_all_and_some(self):
        self.refuses(-1, "AyAyAyAy[x=y]", "EyEyEyEy[x=y]", "AxExAxEx[x=x]", "AxExAxEx[y=0]",
                     "((Ax[x=x]&Ay[y=y])&(Ez[z=9]&Ey[x=y]))")

    def test_eight_claims(self):
        self.finds(7, "(" * 7 + "[6<x]" + "&[x<9])" * 7, "(" * 7 + "[x=7]" + "|[x=8])" * 7)
        self.finds_none("(" * 7 + "[6<x]" + "&[x<9])" * 6 + "&[x<7])")

    def test_nine_claims(self):
        # Nine whole claims and what joins them are 69 bytes; so in 64 they break off.
        nine = "(" * 8 + "[6<x]" + "&[x<9])" * 8
        self.refuses(-2, nine)
        self.refuses(-1, nine[:64], "[x=0]" * 9, "[" * 9, "[" * 64)


class Nesting(Asking):
    def test_as_far_as_64_bytes_go(self):
        self.finds(1, "!" * 59 + "[x=0]", "!" * 56 + "Ey[y<x]", "Ey" + "!" * 56 + "[y<x]")
        self.finds_none("!" * 57 + "Ey[x=y]", "!" * 57 + "[x=x]")
        self.refuses(-1, "(" * 64, "!" * 64, "(" * 59 + "[x=0]", "(!" * 29 + "[x=0]", "[x=0]" + ")" * 59)

    def test_by_loops(self):
        texts = [as_bytes(text) for text in ("!" * 59 + "[x=0]", "Ey" + "!" * 56 + "[y<x]", "AyEz" + "!" * 54 + "[y=z]")]
        self.assertEqual(with_low_limit(lambda: [least(text) for text in texts]), [[1, 1], [1, 1], [1, 0]])


class HandedIn(Asking):
    TEXTS = ("([50<x]&[x%8=0])", "Ey[x=y+60]", "[x=", "[y=0]", "", "!" * 65, "[2x=7]", "(Ex[x=1]&(Ey[x=2y]&[6<x]))")
    ANSWERS = [[1, 56], [1, 60], [-1], [-3], [-1], [-2], [0], [1, 8]]

    def test_stays_as_it_was(self):
        for text in self.TEXTS:
            handed = as_bytes(text)
            least(handed)
            self.assertEqual(handed, as_bytes(text))

    def test_is_not_changed_for_a_while_either(self):
        self.assertEqual([least(seal(text)) for text in self.TEXTS], self.ANSWERS)

    def test_second_call_answers_as_the_first(self):
        handed = [as_bytes(text) for text in self.TEXTS]
        self.assertEqual([least(text) for text in handed], self.ANSWERS)
        self.assertEqual([least(text) for text in reversed(handed)], self.ANSWERS[::-1])
        self.assertEqual([least(text) for text in handed], self.ANSWERS)

    def test_other_call_between(self):
        for text, answer in zip(self.TEXTS, self.ANSWERS):
            before = ask_true(text)
            self.answers(answer, text)
            self.assertEqual(ask_true(text), before)
            self.answers(answer, text)

    def test_what_is_given_back_is_new_each_time(self):
        for text, answer in zip(self.TEXTS, self.ANSWERS):
            ask_least(text).append(7)
            self.answers(answer, text)


if __name__ == "__main__":
    unittest.main()
