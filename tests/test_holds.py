"""Promise 3: holds, ordinary inputs and the edges that the document names."""

import itertools
import unittest

from helper import as_bytes, ask_holds, ask_least, ask_true, seal, sealed, with_low_limit
from wholesays.sentences import holds

GREATEST = 18446744073709551615

SOME_V = ((0, 0, 0), (1, 2, 3), (60, 59, 60), (GREATEST, 0, 5), (7, GREATEST, GREATEST), (GREATEST, GREATEST, GREATEST))


def times(part, count):
    return "+".join([part] * count)


class Asking(unittest.TestCase):
    def answers(self, answer, v, *texts):
        for text in texts:
            with self.subTest(text=text, v=v):
                got = ask_holds(text, v)
                self.assertEqual(got, [answer])
                self.assertIs(type(got), list)
                self.assertIs(type(got[0]), int)

    def so(self, v, *texts):
        self.answers(1, v, *texts)

    def not_so(self, v, *texts):
        self.answers(0, v, *texts)

    def refuses(self, refusal, *texts):
        for v in SOME_V:
            self.answers(refusal, v, *texts)


class Claims(Asking):
    def test_which_number_is_whose(self):
        self.so((4, 5, 6), "[x=4]", "[y=5]", "[z=6]", "[x+1=y]", "[x+2=z]", "[2y=x+z]", "[9x+9y+9z=99+36]")
        self.not_so((4, 5, 6), "[x=5]", "[x=6]", "[y=4]", "[y=6]", "[z=4]", "[z=5]", "[y+1=x]", "[x=y]", "[y=z]")

    def test_less(self):
        for x, y in itertools.product(range(4), repeat=2):
            self.answers(int(x < y), (x, y, 9), "[x<y]", "[2x<2y]", "[z+x<z+y]", "![y<x+1]")

    def test_equal(self):
        for x, z in itertools.product(range(4), repeat=2):
            self.answers(int(x == z), (x, 9, z), "[x=z]", "[3z=3x]", "[x+y+1=z+10]", "!([x<z]|[z<x])")

    def test_rest(self):
        for y, divisor in itertools.product(range(20), range(2, 10)):
            for rest in range(divisor):
                self.answers(int((7 * y + 3) % divisor == rest), (1, y, 2), f"[7y+3%{divisor}={rest}]")

    def test_joins(self):
        for x, y in itertools.product(range(2), repeat=2):
            first, second = x == 0, y == 0
            self.answers(int(first and second), (x, y, 7), "([x=0]&[y=0])")
            self.answers(int(first or second), (x, y, 7), "([x=0]|[y=0])")
            self.answers(int(second or not first), (x, y, 7), "([x=0]>[y=0])")
            self.answers(int(not first), (x, y, 7), "![x=0]")

    def test_no_unknown(self):
        for v in SOME_V:
            self.so(v, "[0=0]", "[98<99]", "[7%3=1]", "([0=1]>[0=2])")
            self.not_so(v, "[0=1]", "[99<98]", "[7%3=2]", "([0=0]>[0=2])")


class FreeUnknowns(Asking):
    def test_are_no_refusal(self):
        for v in SOME_V:
            self.so(v, "[x=x]", "[y<y+1]", "[2z%2=0]", "([x=x]&([y=y]&[z=z]))", "Ax[x+y=y+x]", "Ey[x+z=y]", "AxAy[z=z]")
            self.not_so(v, "[x<x]", "[y+1=y]", "[2z%2=1]", "!([x=x]|[y=z])", "Ax[x+y<y]", "Ey[x+y+z<z]", "ExEy[z<z]")


class GreatNumbers(Asking):
    """Texts without A and E."""

    def test_one_apart(self):
        for great in (2 ** 31, 2 ** 32, 2 ** 53, 2 ** 53 + 1, 2 ** 62, 2 ** 63 - 1, 2 ** 63, GREATEST - 1):
            self.so((great, great + 1, great), "[x<y]", "[x=z]", "[x+1=y]", "![y=z]", "[9x+9=9y]", "[9z<9y]")
            self.not_so((great, great + 1, great), "[y<x]", "[x=y]", "[x<z]", "[z<x]", "[9y<9x+9]", "[9x+9<9y]")

    def test_sums_do_not_come_round(self):
        v = (GREATEST, GREATEST, 1)
        self.so(v, "[x<x+1]", "[x<x+z]", "[x<x+y]", "[x<2x]", "[8x<9x]", "[z<9x+9y]", "[x+y=2x]")
        self.not_so(v, "[x+1=0]", "[x+z=0]", "[x+1<x]", "[2x<x]", "[x+y+2=0]", "[x+y<y]", "[9x+9=0]", "[x<0]")

    def test_just_at_below_and_above(self):
        for x, way in itertools.product((GREATEST, GREATEST - 9, 2 ** 63), (-1, 0, 1)):
            v = (x, x // 9 * 3 + way, x // 9 * 3)
            left, right = 9 * v[1] + 9 * v[2] + 99, 6 * x + 99
            self.answers(int(left < right), v, "[9y+9z+99<6x+99]")
            self.answers(int(right < left), v, "[6x+99<9y+9z+99]")
            self.answers(int(left == right), v, "[9y+9z+99=6x+99]", "[6x+99=99+9z+9y]")

    def test_each_place_at_the_upper_end(self):
        for v in itertools.product((0, GREATEST - 1, GREATEST), repeat=3):
            x, y, z = v
            self.answers(int(9 * x + 9 * y < 9 * z + 99), v, "[9x+9y<9z+99]")
            self.answers(int(9 * x == 9 * y + 9 * z), v, "[9x=9y+9z]", "[9y+9z=9x]")
            self.answers(int(2 * x + 9 == y + z + 9 + 1), v, "[2x+9=y+z+9+1]")
            self.answers(int((9 * x + 8 * y + 7 * z + 99) % 9 == 3), v, "[9x+8y+7z+99%9=3]")

    def test_greatest_sums(self):
        # Ninety times is the most that two sums can have of an unknown each.
        left, right = times("9x", 10), times("9y", 10)
        for x, y in ((GREATEST, GREATEST), (GREATEST, GREATEST - 1), (GREATEST - 1, GREATEST)):
            self.answers(int(x == y), (x, y, 0), f"[{left}={right}]")
            self.answers(int(x < y), (x, y, 0), f"[{left}<{right}]")
            self.answers(int(x == y + 1), (x, y, 0), f"[{left}=90+{right}]")
            self.answers(int(x < y + 1), (x, y, 0), f"[{left}<90+{right}]")
            self.so((x, y, 0), f"[{left}<91+{right}]")

    def test_one_greatest_sum(self):
        self.so((GREATEST, 0, GREATEST), f"[99<{times('9x', 19)}]", f"[z<{times('9x', 19)}]", f"[0={times('9y', 19)}]")
        self.not_so((GREATEST, 0, GREATEST), f"[{times('9x', 19)}<99]", f"[{times('9x', 19)}=z]", f"[{times('9y', 19)}<0]")

    def test_rests(self):
        for great, divisor in itertools.product((2 ** 53 + 1, 2 ** 63, GREATEST - 1, GREATEST), range(2, 10)):
            for rest in range(divisor):
                self.answers(int(great % divisor == rest), (great, 0, 0), f"[x%{divisor}={rest}]")
                self.answers(int((9 * great + 99) % divisor == rest), (0, great, 0), f"[9y+99%{divisor}={rest}]")
                self.answers(int((great + 8 * GREATEST + 5) % divisor == rest), (great, 1, GREATEST),
                             f"[x+8z+5%{divisor}={rest}]")
                self.answers(int(9 * 19 * great % divisor == rest), (1, 2, great), f"[{times('9z', 19)}%{divisor}={rest}]")


class OneDeep(Asking):
    def test_ordinary(self):
        self.so((6, 3, 9), "Ey[x=2y]", "Ez([x<z]&[z<x+2])", "Ax[x<x+y]", "Az([z<y]|[y<z+1])", "Ey[y+y+y=z]", "Ax[0=0]")
        self.not_so((6, 3, 9), "Ey[x=2y+1]", "Ez([x<z]&[z<x+1])", "Ax[x<y]", "Az([z<y]|[y<z])", "Ey[y+y=z]", "Ax[0=1]")

    def test_beside_claims(self):
        self.so((6, 3, 9), "(Ez[x=2z]&[y=3])", "([z=9]>Ax[y<x+4])", "!([x=6]&Az[z<y])")
        self.not_so((6, 3, 9), "(Ez[x=2z]&[y=4])", "([z=9]>Ax[y<x+3])", "!([x=6]&Az[y<z+4])")

    def test_so_many_times_and_a_rest(self):
        for great in (GREATEST, GREATEST - 1, GREATEST - 6, 2 ** 63, 2 ** 63 + 1):
            for count, rest in itertools.product(range(1, 10), range(9)):
                answer = int((great - rest) % count == 0)
                self.answers(answer, (great, 4, 4), f"Ey[x={count}y+{rest}]", f"!Az![{count}z+{rest}=x]")

    def test_great_sums(self):
        v = (GREATEST, GREATEST - 1, GREATEST)
        self.so(v, "Ez[x+y=z]", "Ez[9x+9y+99=z]", "Ez[9x+9x+9x<z]", "Az([z<9x]|[9y<z])", "Ez[z+y=x]", "Ez[x=z]")
        self.not_so(v, "Ez[z+x=y]", "Az[z<9x+9y+99]", "Az([z<9y+1]|[9x<z])", "Ez[z+9x=9y+8]", "Az![x+y=z]")

    def test_greatest_factors(self):
        of_x, of_y, of_z = times("9x", 8), times("9y", 8), times("9z", 8)
        for x, y in itertools.product((GREATEST - 1, GREATEST), repeat=2):
            self.answers(int(x <= y), (x, y, 0), f"Ez[z+{of_x}={of_y}]")
            self.answers(int(x < y), (x, y, 0), f"Ez[z+{of_x}<{of_y}]", f"!Az[{of_y}<{of_x}+z+1]")
            self.so((x, y, 0), f"Ez[{of_x}<{of_z}]", f"Ez[{of_x}={of_z}]", f"Az([z<x]>[{of_z}+71<{of_x}])")
            self.not_so((x, y, 0), f"Ez[{of_x}={of_z}+1]", f"Az[{of_x}<{of_z}]", f"Az([z<x]>[{of_z}+72<{of_x}])")

    def test_just_at_below_and_above(self):
        for y, way in itertools.product((GREATEST - 12, 2 ** 63), range(-12, 13)):
            v = (y + way, y, 5)
            room = 9 * y + 99 - 9 * v[0]
            self.answers(int(room >= 0), v, "Ez[9x+z=9y+99]", "Ez[9x+9z=9y+99]", "!Az![z+9x=9y+99]")
            self.answers(int(room > 0), v, "Ez[9x+z<9y+99]", "Ez[9x+9z<9y+99]", "!Az[9y+98<9x+z]")
            self.answers(int(room < 0), v, "Az[9y+99<9x+z]", "!Ez([9x+z=9y+99]|[z+9x<9y+99])")

    def test_rests_between_two(self):
        for x, gap, divisor in itertools.product((GREATEST - 12, 2 ** 53, 2 ** 63), (1, 2, 3, 8, 9, 12), (2, 7, 8, 9)):
            between = range(x + 1, x + gap)
            for rest in range(divisor):
                v, leaves = (x, x + gap, 0), [number % divisor == rest for number in between]
                self.answers(int(any(leaves)), v, f"Ez(([x<z]&[z<y])&[z%{divisor}={rest}])",
                             f"!Az(([9x<9z]&[9z<9y])>![z%{divisor}={rest}])")
                self.answers(int(all(leaves)), v, f"Az(([x<z]&[z<y])>[z%{divisor}={rest}])")

    def test_rests_that_meet_far_out(self):
        # Of 2520 numbers behind one another just one leaves these rests.
        rests = "([z%9=8]&([z%8=7]&([z%7=6]&[z%5=4])))"
        last = GREATEST // 2520 * 2520 - 1
        for way in (0, 1, 1259, 2518, 2519):
            x = last - way
            self.so((x, 0, 0), f"Ez({rests}&[x<z+1])", f"Ez({rests}&[x<2z])")
            self.so((x, last + 1, 0), f"Ez({rests}&([x<z+1]&[z<y]))")
            self.not_so((x, last, 0), f"Ez({rests}&([x<z+1]&[z<y]))")
            self.not_so((x, last, 0), f"Az({rests}>[z<y+1])", f"Az({rests}>[9z<9x])")

    def test_far_apart(self):
        v = (0, 2 ** 32, GREATEST)
        self.so(v, "Ex([y<x]&[x<z])", "Ay([y<x+1]|[x<y])", "Ex(([x%9=8]&[x%8=7])&([y<x]&[x<z]))", "Ax([z<x]>[y<x])")
        self.not_so(v, "Ex([x<y]&[z<x])", "Ay([y<x]|[x<y])", "Ex(([x%9=8]&[x%3=1])&([y<x]&[x<z]))", "Ax([y<x]>[z<x])")

    def test_several_side_by_side(self):
        v = (GREATEST, GREATEST - 1, 2)
        self.so(v, "((Ex[y=2x]&Ez[x=2z+1])&Az[z<z+x])", "(Ez[z+y=x]&(Ez[x<z]&Az[x+z<2x+z]))")
        self.not_so(v, "((Ex[y=2x]&Ez[x=2z])&Az[z<z+x])", "(Ez[z+x=y]|(Az[x<z]|Ez[2x+z<x+z]))")


class TwoDeep(Asking):
    def test_ordinary(self):
        self.so((6, 3, 9), "AyEz[x+y=z]", "EyEz([x=2y]&[z=y+y])", "ExAy([x<y]|([x=y]|[y<z]))", "AyEz([y<x]>[y+z=x])")
        self.not_so((6, 3, 9), "AyEz[y+z=x]", "EyEz([x=2y]&[z+z=y])", "AxEy([x<y]&[y<z])", "AyEz([y<x+2]>[y+z=x])")

    def test_each_number_up_to_60(self):
        sums = [2 * y + 3 * z for y in range(1, 60, 4) for z in range(3)]
        for x in range(61):
            self.answers(int(x < 60), (x, 7, 7), "Ey([y<60]&Az([z<y]|[x<z+1]))")
            self.answers(int(x != 1), (x, 60, 0), "EyEz[x=2y+3z]")
            self.answers(int(x in sums), (x, 60, 0), "EyEz([x=2y+3z]&([y%4=1]&[z<3]))")
            self.answers(int(x % 2 == 0), (x, 1, 60), "AyEz[x+2y=2z]")
            self.answers(int(x > 57), (x, 0, 0), "AyEz([3y<2z]&[57+y<x+y])")

    def test_each_pair(self):
        for x, y in itertools.product((0, 1, 2, 29, 30, 31, 38, 39, 40, 58, 59, 60), repeat=2):
            between = [z for z in range(60) if x < z and 3 * z < 2 * y + 60]
            self.answers(int(len(between) > 0), (x, y, 5), "Ez(([x<z]&[3z<2y+60])&Ax([z<x]>[2y+60<3x+1]))")
            self.answers(int(len(between) == 1), (x, y, 5), "Ez([z=x+1]&([3z<2y+60]&Ax([z<x]>[2y+60<3x+1])))")

    def test_all_three(self):
        for v in itertools.product((0, 1, 20, 59, 60), repeat=3):
            x, y, z = v
            self.answers(int(3 * x + 2 * y < 3 * z + 60), v, "([3x+2y<3z+60]&AxEy[x=y])")
            self.answers(int(x <= y), v, "(Ez[x+z=y]&ExEy[x<y+z])")

    def test_three_of_all_and_some(self):
        self.so((6, 3, 60), "Ax(Ey[x=2y]|Ez[x=2z+1])", "Ey(Az[y<z+x]&Ex[x+y=z])", "Ey(Ez[x=y+z]&Az([z<y]|[y<z+1]))")
        self.not_so((6, 3, 60), "Ax(Ey[x=2y]&Ez[x=2z+1])", "Ey(Az[y<z]&Ex[x+y=z])", "Ay(Ez[x=y+z]|Az[z+x<y])")


class BoundInside(Asking):
    def test_outside_does_not_count_inside(self):
        for x in (0, 5, 9, GREATEST):
            self.so((x, 1, 1), "Ex[x=5]", "Ax[x<x+y]", "ExEx[x=5]", "AxEx[x=7]", "Ay[y<y+z]", "Ez([z=9]&Ez[z=8])")
            self.not_so((x, 1, 1), "Ax[x=5]", "Ex[x+y<x]", "ExAx[x=5]", "Ax!Ex[x=7]", "Ay[y+z<y]", "Ez([z=9]&Az[z=9])")

    def test_outside_counts_beside(self):
        for x in (0, 4, 5, 9, GREATEST):
            self.answers(int(x == 9), (x, 0, 0), "([x=9]&Ex[x=5])", "(Ex[x=5]&[x=9])", "(Ex[x=5]&([x=9]&Ex[x=7]))")
            self.answers(int(x == 5), (x, 0, 0), "(Ax[x<x+1]&[x=5])", "(Ex([x=9]&Ex[x=8])&[x=5])")
            self.answers(int(x < 9), (x, 0, 0), "(Ex[8<x]>[x<9])", "(Ax[x=5]|([x<9]&Ex[x=99]))")

    def test_one_is_bound_and_another_is_not(self):
        for x, y in itertools.product((0, 7, GREATEST - 1, GREATEST), repeat=2):
            self.answers(int(x < y), (x, y, 3), "(Ey[y<x+1]&[x<y])", "(Ax[x<x+1]&[x<y])", "(Ex[y<x]&Ez([x<z]&[z=y]))")
            self.answers(y % 2, (x, y, 3), "Ex[y=2x+1]", "(Ex[y=2x+1]&Ey[x=y])")

    def test_every_v_answers_alike_where_nothing_is_free(self):
        for text in ("Ex[9x=99]", "Ex[9x=98]", "AxEy[x<y]", "ExAy[y<x]", "AyAz([3y=2z]>[y%2=0])", "(Ax[x=x]>Ex[x<x])"):
            for v in SOME_V:
                self.assertEqual(ask_holds(text, v), ask_true(text), (text, v))


class Lengths(Asking):
    def test_64_bytes(self):
        texts = {"!" * 59 + "[x=4]": 0, "!" * 58 + "[x<11]": 1, "[x+6=10" + "+0" * 28 + "]": 1, "Az" + "!" * 56 + "[x=1y]": 0}
        for text, answer in texts.items():
            self.assertEqual(len(text), 64)
            self.answers(answer, (4, 5, 6), text)
        self.refuses(-1, "!" * 60 + "[x=0", "[x=5+5" + "+0" * 28 + "+]", "!" * 64, "\xff" * 64)

    def test_65_and_more_bytes(self):
        self.refuses(-2, "!" * 60 + "[x=0]", "!" * 95 + "[0=0]", "[10=1x" + "+0" * 29 + "]", "[x=0" + "+0" * 30 + "]")
        self.refuses(-2, "!" * 65, " " * 65, "!" * 100, "\xff" * 100, "\x00" * 65)

    def test_no_bytes(self):
        self.refuses(-1, "")

    def test_more_than_64_bytes_comes_first(self):
        self.refuses(-2, "!" * 61 + "[y=0]", "!" * 62 + "[z=0", "Ax" * 33, "[" * 65, "[y=0" + "+0" * 40 + "]")


class NoText(Asking):
    def test_refused_with_every_v(self):
        self.refuses(-1, "x", "[x]", "[x=0", "[x=01]", "[x%1=0]", "[x%9=9]", "[0x=0]", "([x=0])", "[x=0]&[x=0]", "[x = 0]",
                     "A[x=0]", "[X=0]", "[x=0]\n", "[x-1=0]", "[x+y+z=100]", "[x=0]]", "!y", "[10x=0]", "xyz", "\x00")


class Counts(Asking):
    def test_three_of_all_and_some(self):
        self.so((5, 1, 9), "((Ax[x=x]&Ay[y<y+x])&Ez[x=z+2])", "(Ey[x=y+2]&(Ey[x=y+1]&Ay[y<y+x]))")
        self.not_so((1, 1, 9), "((Ax[x=x]&Ay[y<y+x])&Ez[x=z+2])", "(Ey[x=y+2]&(Ey[x=y+1]&Ay[y<y+x]))")

    def test_four_of_all_and_some(self):
        self.refuses(-1, "AyAyAyAy[x=y]", "EyEyEyEy[x=y]", "AxExAxEx[x=x]", "AxExAxEx[y=0]",
                     "((Ax[x=x]&Ay[y=y])&(Ez[z=9]&Ey[x=y]))")

    def test_eight_claims(self):
        eight = "(" * 7 + "[6<x]" + "&[x<9])" * 7
        for x in (0, 6, 7, 8, 9, GREATEST):
            self.answers(int(6 < x < 9), (x, 0, 0), eight)
            self.answers(int(x == 7), (x, 0, 0), eight.replace("[x<9])", "[x=7])"))

    def test_nine_claims(self):
        # Nine whole claims and what joins them are 69 bytes; so in 64 they break off.
        nine = "(" * 8 + "[6<x]" + "&[x<9])" * 8
        self.refuses(-2, nine)
        self.refuses(-1, nine[:64], "[x=0]" * 9, "[" * 9, "[" * 64)


class Nesting(Asking):
    def test_as_far_as_64_bytes_go(self):
        self.so((1, 2, 3), "!" * 59 + "[x=0]", "!" * 56 + "Ey[y<x]", "Ey" + "!" * 56 + "[y<x]", "!" * 57 + "Ax[x<y]")
        self.not_so((1, 2, 3), "!" * 57 + "Ey[x=y]", "!" * 57 + "[x=x]", "Ay" + "!" * 56 + "[y<x]")
        self.refuses(-1, "(" * 64, "!" * 64, "(" * 59 + "[x=0]", "(!" * 29 + "[x=0]", "[x=0]" + ")" * 59)

    def test_by_loops(self):
        texts = [as_bytes(text) for text in ("!" * 59 + "[x=0]", "Ey" + "!" * 56 + "[y<x]", "AyEz" + "!" * 54 + "[y=z]")]
        self.assertEqual(with_low_limit(lambda: [holds(text, [1, 2, 3]) for text in texts]), [[1], [1], [1]])


class HandedIn(Asking):
    CALLS = (("([50<x]&[x%8=0])", (56, 0, 0)), ("Ey[x=y+60]", (GREATEST, 7, 7)), ("Ey[x+y=z]", (9, 1, 8)), ("[x=", (1, 2, 3)),
             ("", (1, 2, 3)), ("!" * 65, (1, 2, 3)), ("(Ex[x=1]&(Ey[x=2y]&[6<x]))", (8, 5, 5)), ("AxEyEx[x+y=z]", (1, 2, 3)),
             ("AxEy([x+z=2y]|[x=2y])", (60, 60, 58)), ("AxEy([x+z=2y]|[x=2y])", (60, 60, 59)))
    ANSWERS = [[1], [1], [0], [-1], [-1], [-2], [1], [1], [0], [1]]

    def test_stays_as_it_was(self):
        for text, v in self.CALLS:
            handed, numbers = as_bytes(text), list(v)
            holds(handed, numbers)
            self.assertEqual((handed, numbers), (as_bytes(text), list(v)))

    def test_is_not_changed_for_a_while_either(self):
        self.assertEqual([holds(seal(text), sealed(v)) for text, v in self.CALLS], self.ANSWERS)

    def test_second_call_answers_as_the_first(self):
        handed = [(as_bytes(text), list(v)) for text, v in self.CALLS]
        self.assertEqual([holds(text, v) for text, v in handed], self.ANSWERS)
        self.assertEqual([holds(text, v) for text, v in reversed(handed)], self.ANSWERS[::-1])
        self.assertEqual([holds(text, v) for text, v in handed], self.ANSWERS)

    def test_same_text_with_other_numbers_between(self):
        text = as_bytes("(Ey[x=2y]&[y<z])")
        for v, answer in (((4, 1, 2), 1), ((5, 1, 2), 0), ((4, 1, 2), 1), ((4, 2, 2), 0), ((6, 0, GREATEST), 1)):
            self.assertEqual(holds(text, list(v)), [answer])

    def test_same_list_with_other_numbers_between(self):
        text, v = as_bytes("[x<y]"), [1, 2, 3]
        self.assertEqual(holds(text, v), [1])
        v[0] = 2
        self.assertEqual(holds(text, v), [0])
        text[1], text[3] = text[3], text[1]
        v[0] = 3
        self.assertEqual(holds(text, v), [1])

    def test_other_calls_between(self):
        for (text, v), answer in zip(self.CALLS, self.ANSWERS):
            before = ask_true(text), ask_least(text)
            self.answers(answer[0], v, text)
            self.assertEqual((ask_true(text), ask_least(text)), before)
            self.answers(answer[0], v, text)

    def test_what_is_given_back_is_new_each_time(self):
        for (text, v), answer in zip(self.CALLS, self.ANSWERS):
            ask_holds(text, v).append(7)
            self.answers(answer[0], v, text)


class BesideOtherCalls(Asking):
    def test_so_of_the_least_and_of_none_below(self):
        for text in ("([50<x]&[x%8=0])", "Ey[x=y+60]", "([x%9=8]&[x%8=7])", "((Ey[x=3y]&Ez[x=2z+1])&[9<x])", "(Ex[x=1]&[6<x])"):
            found = ask_least(text)[1]
            self.so((found, 5, 5), text)
            for x in range(found):
                self.not_so((x, 5, 5), text)


if __name__ == "__main__":
    unittest.main()
