"""Promise 4: many pairs of texts, each also answered by trying numbers, as far as their size calls for."""

import random
import unittest

from helper import ByTrial, Crosser, Writer, ask_same, is_text, same_by_trial

# What the reaches of the texts of one call are is told in test_by_trial.py. Two texts together have no other
# claims, divisors or times than one could have: so the same reaches do.
ONE_DEEP_REACH = (2625,)
TWO_DEEP_REACHES = (62, 152)


class Rewriter:
    """Writes texts anew by chance, alike or nearly so, always the same way."""

    def __init__(self, seed):
        self.chance = random.Random(seed)

    def pair(self, write, room):
        """Two texts of so many bytes at most: alike, nearly so, or written apart."""
        text = self.short(write, room)
        other = self.short(lambda: self.start_alike(text)[0], room)
        way = self.chance.random()
        if way < 0.3:
            other = self.short(lambda: self.nearly_alike(other), room)
        elif way < 0.6:
            other = self.short(write, room)
        return (text, other) if self.chance.random() < 0.5 else (other, text)

    def short(self, write, room):
        while True:
            text = write()
            if len(text) <= room:
                return text

    def start_alike(self, text):
        """The text's start written anew, and what is left of the text behind it."""
        sign, left = text[0], text[1:]
        if sign == "[":
            claim, left = left.split("]", 1)
            return self.claim_alike(claim), left
        if sign == "!":
            inner, left = self.start_alike(left)
            return self.negated(inner), left
        if sign == "(":
            first, left = self.start_alike(left)
            joined = left[0]
            second, left = self.start_alike(left[1:])
            return self.join_alike(first, joined, second), left[1:]
        unknown = left[0]
        inner, left = self.start_alike(left[1:])
        if self.chance.random() < 0.7:
            return f"{sign}{unknown}{inner}", left
        return self.negated(f"{'E' if sign == 'A' else 'A'}{unknown}{self.negated(inner)}"), left

    def negated(self, text):
        return text[1:] if text[0] == "!" and self.chance.random() < 0.7 else f"!{text}"

    def claim_alike(self, claim):
        if "%" in claim or self.chance.random() < 0.6:
            return f"[{claim}]"
        sign = "<" if "<" in claim else "="
        left, right = claim.split(sign)
        if sign == "<":
            return f"!([{right}={left}]|[{right}<{left}])"
        return self.chance.choice((f"[{right}={left}]", f"!([{left}<{right}]|[{right}<{left}])"))

    def join_alike(self, first, sign, second):
        way = self.chance.random()
        if way < 0.5:
            return f"({first}{sign}{second})"
        if sign == ">":
            return f"({self.negated(first)}|{second})" if way < 0.8 else f"({self.negated(second)}>{self.negated(first)})"
        if way < 0.8:
            return f"({second}{sign}{first})"
        return self.negated(f"({self.negated(first)}{'|' if sign == '&' else '&'}{self.negated(second)})")

    def nearly_alike(self, text):
        """With one sign or number changed, but nothing made greater; or if that can't be, the opposite."""
        changed = []
        for place, sign in enumerate(text):
            others = [group for group in ("<=", "&|>", "AE") if sign in group]
            others = [str(int(sign) - 1)] if sign in "123456789" else "".join(others).replace(sign, "")
            changed += [text[:place] + other + text[place + 1:] for other in others]
        return self.chance.choice([other for other in changed if is_text(other)] or [self.negated(text)])


class SameByTrial(ByTrial):
    def both_answers(self, pairs, free, reaches):
        answers = []
        for a, b in pairs:
            answers.append(ask_same(a, b))
            self.assertEqual(answers[-1], same_by_trial(a, b, free, reaches), (a, b))
            self.assertEqual(answers[-1], ask_same(b, a), (b, a))
        self.assert_both_common(answers, 8)

    def pairs(self, seed, write, count):
        rewriter = Rewriter(seed)
        return [rewriter.pair(write, 64) for _ in range(count)]

    def framed(self, seed, frames, count):
        """Pairs about x and y that have the same frame, which lets no number from 60 on count."""
        rewriter, writer = Rewriter(seed), Writer(seed, 3, 60, 4)
        found = []
        for _ in range(count):
            frame = rewriter.chance.choice(frames)
            texts = rewriter.pair(lambda: writer.text(["x", "y"], writer.chance.randint(1, 3)), 65 - len(frame))
            found.append([frame.replace("T", text) for text in texts])
        return found

    def test_one_is_free(self):
        writer = Writer(41, 9, 99, 9)
        for unknown in "xyz":
            pairs = self.pairs(41, lambda: writer.text([unknown], writer.chance.randint(1, 5)), 300)
            self.both_answers(pairs, [unknown], ONE_DEEP_REACH)

    def test_two_are_free(self):
        writer = Writer(42, 2, 4, 3)
        for free in (["x", "y"], ["y", "x"], ["x", "z"], ["y", "z"]):
            pairs = self.pairs(42, lambda: writer.text(free, writer.chance.randint(1, 4)), 150)
            self.both_answers(pairs, free, TWO_DEEP_REACHES)

    def test_two_are_free_and_fenced(self):
        frames = ("([x<60]&([y<60]&T))", "([y<49]>([59<x]|T))", "(T&([y<60]&[x<60]))", "([y<55]>([x<58]>T))")
        self.both_answers(self.framed(43, frames, 1000), ["x", "y"], (60, 60))

    def test_one_is_free_and_one_deep(self):
        self.both_answers(self.pairs(44, Writer(44, 2, 4, 3).of_x, 1200), ["x"], TWO_DEEP_REACHES)

    def test_one_is_free_and_one_deep_and_fenced(self):
        frames = ("([x<60]&Ey([y<60]&T))", "([x<50]>Ay([y<60]>T))", "([59<x]|Ay([59<y]|T))", "(Ey(T&[y<40])&[x<60])")
        self.both_answers(self.framed(45, frames, 1200), ["x"], (60, 60))

    def test_none_is_free_and_one_deep(self):
        self.both_answers(self.pairs(46, Writer(46, 9, 99, 9).one_deep, 1200), [], ONE_DEEP_REACH)

    def test_none_is_free_and_two_deep(self):
        self.both_answers(self.pairs(47, Writer(47, 2, 4, 3).two_deep, 1200), [], TWO_DEEP_REACHES)

    def test_none_is_free_and_two_deep_and_fenced(self):
        frames = ("Ex([x<60]&Ay([y<60]>T))", "Ax([x<60]>Ey([y<60]&T))", "Ey([y<50]&Ex([x<60]&T))", "Ax([59<x]|Ay([59<y]|T))")
        self.both_answers(self.framed(48, frames, 1200), [], (60, 60))


class Crossing(unittest.TestCase):
    def setUp(self):
        self.crosser = Crosser(53)

    def answers(self, answer, a, b):
        if max(len(a), len(b)) <= 64:
            self.assertEqual(ask_same(a, b), [answer], (a, b))
            self.assertEqual(ask_same(b, a), [answer], (b, a))

    def test_differ_in_one_point_alone(self):
        for _ in range(200):
            both, (x, y) = self.crosser.cross()
            self.answers(0, both, "[0=1]")
            self.answers(0, f"!{both}", "[x=x]")
            self.answers(1, both, f"!!{both}")
            self.answers(int(x < y), f"([x<y]|{both})", "[x<y]")
            self.answers(int(x >= y), f"([x<y]&!{both})", "[x<y]")

    def test_differ_in_no_point_but_that(self):
        for _ in range(200):
            both, (x, y) = self.crosser.cross()
            divisor = self.crosser.chance.randint(2, 4)
            for rest in range(divisor):
                left = (x + 2 * y) % divisor == rest
                self.answers(int(not left), f"({both}&[x+2y%{divisor}={rest}])", "[1<0]")
                self.answers(int(left), f"({both}&[x+2y%{divisor}={rest}])", both)


if __name__ == "__main__":
    unittest.main()
