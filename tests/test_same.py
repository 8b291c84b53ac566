"""Promise 4: same, ordinary inputs and the edges that the document names."""

import itertools
import unittest

from helper import as_bytes, ask_holds, ask_least, ask_same, ask_true, seal, with_low_limit
from wholesays.sentences import same

TOO_LONG = ("!" * 65, "!" * 60 + "[x=0]", "[x=0" + "+0" * 30 + "]", "\xff" * 100, " " * 65)
NO_TEXT = ("", "x", "[x=0", "[x=00]", "([x=0])", "[x%9=9]", "AxExAxEx[y=0]", "!" * 64, "[" * 9, "\x00")
TEXTS = ("[0=0]", "[x=y]", "Ax[x<9]", "AxEy[x<y]", "([x=0]&[y=1])", "!" * 59 + "[x=0]", "[x+y=z]", "AxAyAz[x=y]")


def times(part, count):
    return "+".join([part] * count)


class Asking(unittest.TestCase):
    def answers(self, answer, a, b):
        for first, second in ((a, b), (b, a)):
            with self.subTest(a=first, b=second):
                got = ask_same(first, second)
                self.assertEqual(got, [answer])
                self.assertIs(type(got), list)
                self.assertIs(type(got[0]), int)

    def alike(self, *texts):
        """Each is the same as each."""
        for a, b in itertools.combinations_with_replacement(texts, 2):
            self.answers(1, a, b)

    def differ(self, *texts):
        """No two are the same."""
        for a, b in itertools.combinations(texts, 2):
            self.answers(0, a, b)


class NoneFree(Asking):
    SO = ("[0=0]", "[7%3=1]", "Ax[x<x+1]", "Ey[9y=99]", "(Ax[x=x]&Ez[z=5])", "!Ex([x%9=8]&[x%3=1])")
    NOT_SO = ("[0=1]", "[7%3=2]", "Ax[x<99]", "Ey[9y=98]", "(Ax[x=x]&Ez[z<0])", "!Ex([x%9=8]&[x%8=1])")
    SO_TWO_DEEP = ("AxEy[x<y]", "AxEy([x=2y]|[x=2y+1])", "!EzAy[y<z]", "ExEy(([3x=60]&[3y=x+58])&[y%4=2])", "AyEz[y=z]")
    NOT_SO_TWO_DEEP = ("ExAy[y<x]", "AxEy[x=2y]", "!EzAy[z<y+1]", "ExEy(([3x=60]&[3y=x+58])&[y%4=1])", "AyAz[y=z]")

    def test_both_so(self):
        self.alike(*self.SO)
        self.alike("[0=0]", "Ax[x=x]", *self.SO_TWO_DEEP)

    def test_neither_so(self):
        self.alike(*self.NOT_SO)
        self.alike("[0=1]", "Ax[x=0]", *self.NOT_SO_TWO_DEEP)

    def test_one_so(self):
        for a, b in itertools.product(self.SO, self.NOT_SO):
            self.answers(0, a, b)
        for a, b in itertools.product(("[0=0]", *self.SO_TWO_DEEP), ("Ax[x=5]", *self.NOT_SO_TWO_DEEP)):
            self.answers(0, a, b)

    def test_tells_what_is_true(self):
        for text in self.SO + self.NOT_SO + self.SO_TWO_DEEP + self.NOT_SO_TWO_DEEP:
            self.assertEqual(ask_same(text, "[0=0]"), ask_true(text), text)


class OneFree(Asking):
    def test_claims(self):
        self.alike("[x<5]", "![4<x]", "[x+1<6]", "[2x<10]", "[2x<9]", "[9x<45]", "!([x=5]|[5<x])")
        self.alike("[y=7]", "[7=y]", "[3y=21]", "[9y=y+56]", "([6<y]&[y<8])")
        self.alike("[z%2=0]", "![z%2=1]", "[z+2%2=0]", "[3z%6=0]", "[4z%8=0]", "([z%4=0]|[z%4=2])")
        self.differ("[x<5]", "[x<4]", "[x<6]", "[x=5]", "[5<x]", "[x%5=0]", "![x=5]", "[x=x]", "[x<x]")

    def test_each_unknown(self):
        for unknown in "xyz":
            self.answers(1, f"[{unknown}<9]", f"![8<{unknown}]")
            self.answers(0, f"[{unknown}<9]", f"![9<{unknown}]")

    def test_every_rest(self):
        for divisor in range(2, 10):
            rests = [f"[x%{divisor}={rest}]" for rest in range(divisor)]
            self.differ(*rests, "[x=0]", "[x=x]", "[x<x]")
            self.alike(rests[1], f"[x+{divisor}%{divisor}=1]", f"[x+{divisor - 1}%{divisor}=0]")

    def test_joins(self):
        self.alike("([x<9]&[4<x])", "([4<x]&[x<9])", "!(![x<9]|[x<5])", "!([x<9]>[x<5])", "((([x=5]|[x=6])|[x=7])|[x=8])")
        self.alike("([x=1]>[x=2])", "![x=1]", "(![x=1]|[x=2])", "(![x=2]>![x=1])", "([x<1]|[1<x])")
        self.differ("([x<9]&[4<x])", "([x<9]|[4<x])", "([x<9]>[4<x])", "([4<x]>[x<9])")

    def test_free_in_one_of_them_only(self):
        self.alike("[x=x]", "[0=0]", "[x<x+1]", "([x%2=0]|[x%2=1])", "![x<0]")
        self.alike("[x<x]", "[0=1]", "[x+1=x]", "([x%9=1]&[x%3=2])", "[2x=7]", "([50<x]&[x<51])")
        self.differ("[0=0]", "[x=0]", "[0=1]")
        self.differ("[0=0]", "![x=99]", "[0=1]")
        self.differ("[0=0]", "[x%9=8]", "[0=1]")
        self.alike("[y=y]", "Ax[x=x]", "Ey[y=5]", "([y<60]|Az[59<y])")
        self.differ("[y=y]", "Ax[x=0]", "[y=5]")

    def test_differ_at_one_great_number_only(self):
        nineties = times("99", 20)
        self.answers(0, f"[x={nineties}]", "[0=1]")
        self.answers(0, f"[x<{nineties}]", f"![{nineties}<x]")
        self.answers(1, f"[x<{times('99', 20)}]", f"![{times('99', 19)}+98<x]")
        self.answers(0, f"![x={nineties}]", "[x=x]")
        self.answers(0, f"[9x={nineties}]", f"[9x={times('99', 19)}+98]")
        self.answers(1, f"[7x={nineties}]", "[0=1]")
        self.answers(0, "(([x%9=8]&[x%8=7])&([x%7=6]&[x<99+99+99+99+99+9]))", "[0=1]")
        self.answers(1, "(([x%9=8]&[x%8=7])&([x%7=6]&[x<99+99+99+99+99+8]))", "[0=1]")

    def test_differ_at_one_rest_only(self):
        # Of 2520 numbers just one leaves all four rests.
        rests = "(([x%9=8]&[x%8=7])&([x%7=6]&[x%5=4]))"
        self.answers(0, rests, "[0=1]")
        self.answers(0, "!" + rests, "[0=0]")
        self.answers(0, "([x%9=8]&[x%8=7])", "([x%9=8]&([x%8=7]&!([x%7=6]&[x%5=4])))")
        self.answers(0, rests, "(([x%9=8]&[x%8=7])&([x%7=6]&[x%5=3]))")
        self.answers(1, rests, "([x+1%5=0]&([x+1%7=0]&([x+1%8=0]&[x+1%9=0])))")
        self.answers(1, "(([x%9=8]&[x%8=7])&([x%7=6]&[x%3=1]))", "[0=1]")
        self.answers(0, "([99<x]&[x%9=4])", "(([99<x]&[x%9=4])&![x=99+4])")
        self.answers(1, "([99<x]&[x%9=4])", "(([99<x]&[x%9=4])&![x=99+5])")

    def test_rests_of_both_texts_together(self):
        # Each text by itself comes round sooner.
        self.answers(0, "!([x%9=8]&[x%8=7])", "!(([x%9=8]&[x%8=7])&![x%7=6])")
        self.answers(0, "([x%9=8]&[x%7=6])", "([x%8=7]&[x%5=4])")
        self.answers(1, "([x%6=0]&[x%4=0])", "([x%3=0]&[x%4=0])")
        self.answers(1, "([x%2=0]&[x%9=0])", "([x%6=0]&[x%9=0])")

    def test_great_sums(self):
        self.alike("[9x+9x=8x+9x+99+99]", "[x=99+99]", "[2x=99+99+99+99]")
        self.differ("[9x+9x=8x+9x+99+99]", "[9x+9x<8x+9x+99+99]", "[x=99+98]", "[x<99+99+1]")


class TwoFree(Asking):
    def test_claims(self):
        self.alike("[x<y]", "![y<x+1]", "[2x<2y]", "[x+1<y+1]", "!([y<x]|[x=y])", "[2x+1<2y+1]")
        self.alike("[x=y]", "[y=x]", "[3x=3y]", "!([x<y]|[y<x])", "([x<y+1]&[y<x+1])")
        self.differ("[x<y]", "[y<x]", "[x=y]", "[x<y+1]", "[x+1<y]", "[x+y%2=0]", "[x=x]", "[x<x]")

    def test_each_two(self):
        for a, b in itertools.permutations("xyz", 2):
            self.answers(1, f"[{a}<{b}]", f"![{b}<{a}+1]")
            self.answers(0, f"[{a}<{b}]", f"[{b}<{a}]")
            self.answers(0, f"[{a}=0]", f"[{b}=0]")
            self.answers(0, f"[{a}={b}]", f"[{a}={a}]")

    def test_each_in_one_of_them_only(self):
        self.alike("[x=x]", "[y<y+1]", "[0=0]", "([x%2=0]|![x%2=0])")
        self.differ("[x=0]", "[y=0]", "[0=0]", "[0=1]")
        self.differ("[x<60]", "[y<60]", "[x<59]")

    def test_rests(self):
        self.alike("[x+y%2=0]", "[x+3y%2=0]", "(([x%2=0]&[y%2=0])|([x%2=1]&[y%2=1]))", "![x+y%2=1]")
        self.alike("[x+2y%3=0]", "[2x+y%3=0]", "!([x+2y%3=1]|[x+2y%3=2])")
        self.differ("[x+y%4=0]", "[x+y%4=2]", "[x+y%2=0]", "[x+3y%4=0]", "[2x+y%4=0]", "[x+y%3=0]")

    def test_differ_at_one_rest_only(self):
        self.answers(0, "([x%4=3]&[y%3=2])", "(([x%4=3]&[y%3=2])&![x+y%4=1])")
        self.answers(0, "([x%4=3]&([y%4=3]&[x+y%3=2]))", "[0=1]")
        self.answers(1, "([x%4=3]&([y%4=3]&[x+y%4=1]))", "[0=1]")

    def test_differ_only_at_a_pair_far_from_0(self):
        # Both sums are equal where x is 180 and y is 240, and nowhere else.
        both = "([3x=2y+60]&[y=x+60])"
        self.answers(0, both, "[0=1]")
        self.answers(0, f"!{both}", "[y=y]")
        self.answers(0, f"({both}|[y<x])", "[y<x]")
        self.answers(1, f"({both}|[x<y])", "[x<y]")
        self.answers(0, f"({both}&([x%4=0]&[y%3=0]))", "[0=1]")
        self.answers(1, f"({both}&![x%4=0])", "[0=1]")
        self.answers(1, f"({both}&[x+y%4=0])", both)

    def test_differ_only_far_from_0(self):
        # The first is so of no x below 180.
        self.differ("([2y+59<3x]&[x+59<y])", "([2y+60<3x]&[x+59<y])", "([2y+59<3x]&[x+60<y])", "[0=1]")
        self.alike("([2y+59<3x]&[x+59<y])", "!([3x<2y+60]|[y<x+60])", "!([2y+59<3x]>[y<x+60])")


class OneFreeAndOneDeep(Asking):
    def test_claims(self):
        self.alike("[x%2=0]", "Ey[x=2y]", "!Ey[x=2y+1]", "Az![x=2z+1]")
        self.alike("[59<x]", "Ey[x=y+60]", "!Ay[x<y+60]", "Ez([59<z]&[x=z])")
        self.alike("[x%3=0]", "Ez[x=3z]", "Ay!([3y<x]&[x<3y+3])")
        self.alike("[x<7]", "!Ey[x=y+7]", "Ay([y<x]>[y<6])")
        self.alike("[x=x]", "Ey[x<y]", "Az([z<x]|[x<z+1])", "[0=0]", "Ez[z=60]")
        self.differ("Ey[x=2y]", "Ey[x=2y+1]", "Ey[x=3y]", "[x%4=0]", "Ay[x<x+y]", "Ey[x<y]")

    def test_each_unknown(self):
        self.alike("Ex[y=2x]", "[y%2=0]", "Ez[y=2z]")
        self.alike("Ex[z=2x]", "[z%2=0]", "Ey[z=2y]")
        self.differ("Ex[y=2x]", "[y%2=1]", "Ez[y=3z]")
        self.differ("Ex[z=2x]", "[z%2=1]", "Ey[z=3y]")

    def test_gap_that_gets_narrow(self):
        self.alike("[x<57]", "Ey([x<y]&[3y<2x+60])")
        self.alike("[x<54]", "Ey([x+1<y]&[3y<2x+60])")
        self.differ("[x<56]", "Ey([x<y]&[3y<2x+60])", "Ey([x+1<y]&[3y<2x+60])", "[x<58]")

    def test_differ_at_one_great_number_only(self):
        self.answers(0, "Ey([x=3y]&[y=60])", "[0=1]")
        self.answers(0, "Ay([y=60]>![x=3y])", "Az[z=z]")
        self.answers(0, "([59<x]|Ey([x=3y]&[y=60]))", "Ey([x=3y]&[y=60])")
        self.answers(1, "([59<x]|Ey([x=3y]&[y=60]))", "[59<x]")
        self.answers(1, "Ey([x=3y]&([y=60]&[x%4=1]))", "[0=1]")

    def test_several_side_by_side(self):
        self.alike("(Ey[x=2y]&Ez[x=3z])", "([x%2=0]&[x%3=0])", "Ey([x=3y]&[y%2=0])", "(Ey[x=2y]&(Ey[x=3y]&Ez[x<z]))")
        self.differ("(Ey[x=2y]&Ez[x=3z])", "(Ey[x=2y]|Ez[x=3z])", "(Ey[x=2y]>Ez[x=3z])", "Ey[x=2y]", "Ez[x=3z]")

    def test_free_in_one_and_deep_in_the_other(self):
        self.alike("[x<0]", "Ey[y<0]", "Ax[x=9]", "([x=0]&Ex[x<0])")
        self.differ("[x<9]", "Ey[y<9]", "Ay[y<9]")


class BoundInside(Asking):
    def test_bound_and_free(self):
        self.alike("[x=9]", "(Ex[x=5]&[x=9])", "([x=9]&Ax[x=x])", "(Ax[x=5]|[x=9])", "(([x=9]&Ex[x=7])&[x=9])")
        self.alike("[y=y]", "Ex[x=y]", "(Ex[x<y]|[y=0])")
        self.differ("[x=5]", "Ex[x=5]", "Ax[x=5]")
        self.differ("[x<9]", "Ax[x<9]", "Ex[x<9]")

    def test_names_of_what_is_bound_make_no_difference(self):
        self.alike("Ex[x=5]", "Ey[y=5]", "Ez[z=5]")
        self.alike("AxEy[x<y]", "AyEx[y<x]", "AzEx[z<x]")
        self.alike("Ey[x=2y+1]", "Ez[x=2z+1]")


class Refusals(Asking):
    def test_too_long(self):
        for text, other in itertools.product(TOO_LONG, TEXTS):
            self.answers(-2, text, other)
        for text, other in itertools.product(TOO_LONG, repeat=2):
            self.answers(-2, text, other)

    def test_no_text(self):
        for text, other in itertools.product(NO_TEXT, TEXTS):
            self.answers(-1, text, other)
        for text, other in itertools.product(NO_TEXT, repeat=2):
            self.answers(-1, text, other)

    def test_too_long_comes_first(self):
        for text, other in itertools.product(TOO_LONG, NO_TEXT):
            self.answers(-2, text, other)

    def test_alike_but_refused(self):
        self.answers(-2, "!" * 60 + "[0=0]", "!" * 60 + "[0=0]")
        self.answers(-1, "[0=0", "[0=0")
        self.answers(-1, "", "")

    def test_free_is_no_refusal(self):
        self.answers(1, "[x=y]", "[x=y]")
        self.answers(0, "[x=y]", "[x<y]")
        self.answers(0, "[z=0]", "[0=0]")


class Lengths(Asking):
    def test_64_bytes(self):
        texts = ("!" * 58 + "[x<11]", "[x<10+1" + "+0" * 28 + "]", "([x<11]&" + "!" * 50 + "[0=0])", "!" * 57 + "[10<1x]")
        for text in texts:
            self.assertEqual(len(text), 64)
        self.alike("[x<11]", *texts)
        for text in texts:
            self.answers(0, text, "[x<10]")
            self.answers(0, text, "!" * 58 + "[x<12]")

    def test_65_bytes(self):
        for text in ("!" * 59 + "[x<11]", "[x<10+1" + "+0" * 28 + "+1]", "!" * 60 + "[0=0]"):
            self.answers(-2, text, "[x<11]")
            self.answers(-2, text, text)
            self.answers(-2, text, "!" * 58 + "[x<11]")
            self.answers(-2, text, "!" * 58 + "[x<11")


class Counts(Asking):
    def test_three_of_all_and_some_in_each(self):
        self.alike("((Ax[x=x]&Ay[y=y])&Ez[z=9])", "(Ax[x=x]&(Ax[x=x]&Ax[x=x]))", "(AxEy[x=y]&Ez[z=0])")
        self.answers(0, "((Ax[x=x]&Ay[y=y])&Ez[z=9])", "((Ax[x=x]&Ay[y=y])&Ez[z<0])")
        self.alike("((Ey[x=2y]&Ez[x=3z])&Ay[y<y+x+1])", "(Ay[x<y+x+1]&(Ez[x=3z]&Ez[x=2z]))")

    def test_four_of_all_and_some(self):
        for four in ("AyAyAyAy[x=y]", "AxExAxEx[x=x]", "((Ax[x=x]&Ay[y=y])&(Ez[z=9]&Ey[x=y]))", "((Ex[x=0]&Ex[x=0])&ExEx[x=0])"):
            self.answers(-1, four, four)
            self.answers(-1, four, "[0=0]")
            self.answers(-1, four, "((Ax[x=x]&Ay[y=y])&Ez[z=9])")

    def test_eight_claims_in_each(self):
        eight = "(" * 7 + "[6<x]" + "&[x<9])" * 7
        other = "(" * 7 + "[x=7]" + "|[x=8])" * 7
        self.alike(eight, other, "([x=7]|[x=8])")
        self.differ(eight, "(" * 7 + "[6<x]" + "&[x<9])" * 6 + "&[x<8])", "(" * 7 + "[x=7]" + "|[x=9])" * 7, "[6<x]")

    def test_eight_claims_of_two_in_each(self):
        self.alike("(" * 7 + "[x<y]" + "|[y<x])" * 7, "!" + "(" * 6 + "[x=y]" + "&[y=x])" * 6, "![x=y]")
        self.answers(0, "(" * 7 + "[x<y]" + "|[y<x])" * 7, "(" * 7 + "[x<y]" + "&[x<y])" * 7)

    def test_nine_claims(self):
        # Nine whole claims and what joins them are 69 bytes; so in 64 they break off.
        nine = "(" * 8 + "[6<x]" + "&[x<9])" * 8
        self.answers(-2, nine, nine)
        self.answers(-2, nine, "[x=0]")
        self.answers(-2, nine, nine[:64])
        for text in (nine[:64], "[x=0]" * 9, "[" * 9, "[" * 64):
            self.answers(-1, text, text)
            self.answers(-1, text, "[x=0]")


class Nesting(Asking):
    def test_as_far_as_64_bytes_go(self):
        self.alike("![x=0]", "!" * 59 + "[x=0]", "!" * 56 + "Ey[y<x]", "Ey" + "!" * 56 + "[y<x]")
        self.differ("[x=0]", "!" * 59 + "[x=0]", "!" * 56 + "Ey[x<y]", "Ay" + "!" * 56 + "[y<x]")
        for text in ("(" * 64, "!" * 64, "(" * 59 + "[x=0]", "(!" * 29 + "[x=0]", "[x=0]" + ")" * 59):
            self.answers(-1, text, "[x=0]")

    def test_by_loops(self):
        texts = [as_bytes(text) for text in ("!" * 59 + "[x=0]", "Ey" + "!" * 56 + "[y<x]", "!" * 59 + "[y=x]")]
        self.assertEqual(with_low_limit(lambda: [same(texts[0], text) for text in texts]), [[1], [1], [0]])


class HandedIn(Asking):
    CALLS = (("[x<5]", "![4<x]"), ("[x<5]", "[x<4]"), ("Ey[x=2y]", "[x%2=0]"), ("([3x=2y+60]&[y=x+60])", "[0=1]"),
             ("AxEy[x<y]", "Ez[z=5]"), ("[x=", "[x=0]"), ("[x=0]", ""), ("!" * 65, "[x=0]"), ("[x=0", "!" * 65))
    ANSWERS = [[1], [0], [1], [0], [1], [-1], [-1], [-2], [-2]]

    def test_stays_as_it_was(self):
        for a, b in self.CALLS:
            first, second = as_bytes(a), as_bytes(b)
            same(first, second)
            self.assertEqual((first, second), (as_bytes(a), as_bytes(b)))

    def test_is_not_changed_for_a_while_either(self):
        self.assertEqual([same(seal(a), seal(b)) for a, b in self.CALLS], self.ANSWERS)

    def test_second_call_answers_as_the_first(self):
        handed = [(as_bytes(a), as_bytes(b)) for a, b in self.CALLS]
        self.assertEqual([same(a, b) for a, b in handed], self.ANSWERS)
        self.assertEqual([same(a, b) for a, b in reversed(handed)], self.ANSWERS[::-1])
        self.assertEqual([same(a, b) for a, b in handed], self.ANSWERS)

    def test_other_way_round(self):
        self.assertEqual([ask_same(b, a) for a, b in self.CALLS], self.ANSWERS)

    def test_one_list_as_both(self):
        for text in TEXTS:
            if text not in ("[x+y=z]", "AxAyAz[x=y]"):
                handed = seal(text)
                self.assertEqual(same(handed, handed), [1], text)

    def test_what_is_given_back_is_new_each_time(self):
        for (a, b), answer in zip(self.CALLS, self.ANSWERS):
            ask_same(a, b).append(7)
            self.answers(answer[0], a, b)


class BesideOtherCalls(Asking):
    TEXTS = ("[x<5]", "Ey[x=2y]", "([9<x]&[x%4=1])", "Ay([y<x]>[y<6])", "Ez[x=z]", "[x<x]", "(Ex[x=5]&[x=9])", "!Ez[x=3z+1]")

    def test_alike_where_least_and_holds_answer_alike(self):
        for a, b in itertools.product(self.TEXTS, repeat=2):
            told = [[ask_holds(text, (x, 0, 0)) for x in range(80)] for text in (a, b)]
            self.answers(int(told[0] == told[1]), a, b)
            if told[0] == told[1]:
                self.assertEqual(ask_least(a), ask_least(b))


if __name__ == "__main__":
    unittest.main()
