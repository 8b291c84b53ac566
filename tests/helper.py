"""What the tests share: asking by written texts, plain ways to know the answer, and texts written by chance."""

import inspect
import random
import re
import sys
import unittest

from wholesays.sentences import holds, is_true, least, same

PART = "(?:0|[1-9][0-9]?|[1-9]?[xyz])"
SUM = rf"{PART}(?:\+{PART})*"
RESTS = "|".join([f"%{m}=[0-{m - 1}]" for m in range(2, 10)])
CLAIM = re.compile(rf"\[{SUM}(?:[<=]{SUM}|{RESTS})\]")
WHOLE = "\u2022"
STEP = re.compile(rf"!{WHOLE}|\({WHOLE}[&|>]{WHOLE}\)|[AE][xyz]{WHOLE}")
SIGNS = {"&": "and", "|": "or"}


def as_bytes(text):
    return list(text.encode("latin-1"))


def ask_true(text):
    return is_true(as_bytes(text))


def ask_least(text):
    return least(as_bytes(text))


def ask_holds(text, v):
    return holds(as_bytes(text), list(v))


def ask_same(a, b):
    return same(as_bytes(a), as_bytes(b))


def seal(text):
    return sealed(as_bytes(text))


def sealed(numbers):
    """The numbers in a list that fails if it is changed."""
    def refuse(*args, **kwargs):
        raise AssertionError("changed")

    changing = ("__setitem__", "__delitem__", "__iadd__", "__imul__", "append", "clear", "extend", "insert", "pop",
                "remove", "reverse", "sort")
    return type("Sealed", (list,), {name: refuse for name in changing})(numbers)


def with_low_limit(work):
    """What work answers where only few calls may stand in one another."""
    before = sys.getrecursionlimit()
    sys.setrecursionlimit(len(inspect.stack(0)) + 30)
    try:
        return work()
    finally:
        sys.setrecursionlimit(before)


def is_text(text):
    """Whether it is a text, found from the inside out."""
    if text.count("A") + text.count("E") > 3 or text.count("[") > 8:
        return False
    text = CLAIM.sub(WHOLE, text)
    shorter = STEP.sub(WHOLE, text)
    while shorter != text:
        text = shorter
        shorter = STEP.sub(WHOLE, text)
    return text == WHOLE


def claim_source(claim):
    claim = re.sub("([1-9])([xyz])", r"\1*\2", claim)
    if "%" in claim:
        total, rest = claim.split("%")
        divisor, rest = rest.split("=")
        return f"(({total}) % {divisor} == {rest})"
    return "(" + claim.replace("=", "==") + ")"


def source(text, reaches):
    """Python for the text's start, and what is left of the text behind it."""
    sign, left = text[0], text[1:]
    if sign == "[":
        claim, left = left.split("]", 1)
        return claim_source(claim), left
    if sign == "!":
        inner, left = source(left, reaches)
        return f"(not {inner})", left
    if sign == "(":
        first, left = source(left, reaches)
        joined = left[0]
        second, left = source(left[1:], reaches)
        if joined == ">":
            return f"((not {first}) or {second})", left[1:]
        return f"({first} {SIGNS[joined]} {second})", left[1:]
    word = "all" if sign == "A" else "any"
    inner, behind = source(left[1:], reaches[1:])
    return f"{word}({inner} for {left[0]} in range({reaches[0]}))", behind


def whole_source(text, reaches):
    written, left = source(text, reaches)
    if left != "":
        raise ValueError(text)
    return written


def true_by_trial(text, reaches):
    """Whether it is so if A and E, from the outermost in, try just the numbers below these reaches."""
    return [1 if eval(whole_source(text, reaches)) else 0]


def least_by_trial(text, reaches):
    """The least x below the first reach, if A and E try just the numbers below the others."""
    found = eval(f"next((x for x in range({reaches[0]}) if {whole_source(text, reaches[1:])}), None)")
    return [0] if found is None else [1, found]


def holds_by_trial(text, v, reaches):
    """Whether it is so of v, if A and E, from the outermost in, try just the numbers below these reaches."""
    return [1 if eval(whole_source(text, reaches), dict(zip("xyz", v))) else 0]


def same_by_trial(a, b, free, reaches):
    """Whether both are so alike, if these free unknowns, then A and E, try just the numbers below the reaches."""
    inner = reaches[len(free):]
    written = f"{whole_source(a, inner)} == {whole_source(b, inner)}"
    for unknown, reach in reversed(list(zip(free, reaches))):
        written = f"all({written} for {unknown} in range({reach}))"
    return [1 if eval(written) else 0]


class Writer:
    """Writes texts by chance, always the same ones."""

    def __init__(self, seed, most_times, most_number, most_divisor):
        self.chance = random.Random(seed)
        self.most_times = most_times
        self.most_number = most_number
        self.most_divisor = most_divisor

    def part(self, unknown):
        times = self.chance.randint(1, self.most_times)
        return unknown if times == 1 else f"{times}{unknown}"

    def total(self, bound):
        parts = [self.part(unknown) for unknown in bound if self.chance.random() < 0.6]
        if not parts or self.chance.random() < 0.5:
            parts.append(str(self.chance.randint(0, self.most_number)))
        self.chance.shuffle(parts)
        return "+".join(parts)

    def claim(self, bound):
        if self.chance.random() < 0.3:
            divisor = self.chance.randint(2, self.most_divisor)
            return f"[{self.total(bound)}%{divisor}={self.chance.randrange(divisor)}]"
        return f"[{self.total(bound)}{self.chance.choice('<=')}{self.total(bound)}]"

    def text(self, bound, claims):
        if self.chance.random() < 0.2:
            return "!" + self.text(bound, claims)
        if claims == 1:
            return self.claim(bound)
        first = self.chance.randint(1, claims - 1)
        sign = self.chance.choice("&|>")
        return f"({self.text(bound, first)}{sign}{self.text(bound, claims - first)})"

    def binder(self, unknown):
        return self.chance.choice("AE") + unknown

    def one_deep(self, free=()):
        unknown = self.chance.choice("xyz")
        return self.binder(unknown) + self.text(sorted({unknown, *free}), self.chance.randint(1, 6))

    def two_deep(self, free=()):
        outer, inner = self.chance.sample("xyz", 2)
        within = self.binder(inner) + self.text(sorted({outer, inner, *free}), self.chance.randint(1, 4))
        if self.chance.random() < 0.4:
            sign = self.chance.choice("&|>")
            within = f"({self.text(sorted({outer, *free}), 1)}{sign}{within})"
        return self.binder(outer) + within

    def flat(self):
        """Of x alone, without A and E."""
        return self.text(["x"], self.chance.randint(1, 6))

    def of_x(self):
        """One deep, with x free or bound twice over."""
        inner = self.chance.choice("yyyzzzx")
        within = self.binder(inner) + self.text(sorted({"x", inner}), self.chance.randint(1, 4))
        if inner == "x" or self.chance.random() < 0.4:
            sign = self.chance.choice("&|>")
            within = f"({self.text(['x'], 1)}{sign}{within})"
        return within

    def side(self, bound):
        parts = [self.part(unknown) for unknown in bound if self.chance.random() < 0.7]
        return "+".join(parts + [str(self.chance.randint(0, self.most_number))])

    def fence(self, unknown):
        """A claim that no number from 60 on fulfils."""
        return f"[{unknown}<{self.chance.randint(40, 60)}]"

    def fenced(self, free=()):
        """Two deep, and decided by numbers below 60."""
        outer, inner = self.chance.sample("xyz", 2)
        known = sorted({outer, inner, *free})
        claims = [f"[{self.side(known)}{sign}{self.side(known)}]" for sign in self.chance.choice(("==", "=<", "<<"))]
        rest = self.claim(known) if self.chance.random() < 0.5 else self.fence(outer)
        within = f"(({claims[0]}&{claims[1]})&({rest}&{self.fence(inner)}))"
        return self.chance.choice((
            f"E{outer}({self.fence(outer)}&E{inner}{within})",
            f"A{outer}({self.fence(outer)}>!E{inner}{within})",
            f"E{outer}({self.fence(outer)}&A{inner}({self.fence(inner)}>({claims[0]}|{claims[1]})))",
            f"A{outer}({self.fence(outer)}>E{inner}({self.fence(inner)}&!({claims[0]}&{claims[1]})))",
        ))

    def fenced_of_x(self):
        """One deep, with x free, and decided by numbers below 60."""
        pair = ["x", self.chance.choice("yz")]
        claims = [f"[{self.side(pair)}{sign}{self.side(pair)}]" for sign in self.chance.choice(("==", "=<", "<<"))]
        fence = self.fence(pair[1])
        return self.chance.choice((
            f"({self.fence('x')}&E{pair[1]}(({claims[0]}&{claims[1]})&{fence}))",
            f"({self.fence('x')}&A{pair[1]}({fence}>({claims[0]}|{claims[1]})))",
            f"!({self.fence('x')}>E{pair[1]}({fence}&({claims[0]}>{claims[1]})))",
        ))

    def gap(self):
        """For some number the gap is as gap_of says."""
        outer, inner = self.chance.sample("xyz", 2)
        return f"E{outer}{self.gap_of(outer, inner)}"

    def gap_of_x(self):
        return self.gap_of("x", self.chance.choice("yz"))

    def gap_of(self, outer, inner):
        """Of numbers between two sums, which get ever fewer: there are some, and all leave a rest."""
        while True:
            a, b, c, d = [self.chance.randint(1, self.most_times) for _ in range(4)]
            if a * c > b * d:
                break
        number = self.chance.randint(self.most_number // 2, self.most_number)
        between = f"([{a}{outer}<{b}{inner}]&[{c}{inner}<{d}{outer}+{number}])"
        divisor = self.chance.randint(2, self.most_divisor)
        rest = f"[{inner}%{divisor}={self.chance.randrange(divisor)}]"
        return f"(E{inner}{between}&A{inner}({between}>{rest}))"


class Crosser:
    """Writes two claims of equal sums that can only meet in one point, always the same ones."""

    def __init__(self, seed):
        self.chance = random.Random(seed)

    def line(self, point):
        left = [self.chance.randint(0, 3) for _ in point]
        right = [self.chance.randint(0, 3) for _ in point]
        slopes = [a - b for a, b in zip(left, right)]
        number = -sum(slope * value for slope, value in zip(slopes, point))
        return left, right, slopes, number

    def written(self, line):
        left, right, _, number = line
        sides = []
        for times, alone in ((left, max(number, 0)), (right, max(-number, 0))):
            parts = [f"{count}{unknown}" for count, unknown in zip(times, "xy") if count > 0]
            sides.append("+".join(parts + [str(alone)]))
        return f"[{sides[0]}={sides[1]}]"

    def cross(self):
        """Two claims that meet in a point, and the point."""
        while True:
            point = [self.chance.randint(0, 200), self.chance.randint(0, 200)]
            first, second = self.line(point), self.line(point)
            crossing = first[2][0] * second[2][1] != first[2][1] * second[2][0]
            if crossing and abs(first[3]) <= 60 and abs(second[3]) <= 60:
                return f"({self.written(first)}&{self.written(second)})", point


class ByTrial(unittest.TestCase):
    def compare(self, write, count, ask, answer_by_trial):
        answers = []
        while len(answers) < count:
            text = write()
            if len(text) <= 64:
                answer = ask(text)
                self.assertEqual(answer, answer_by_trial(text), text)
                answers.append(answer)
        return answers

    # No answer may stand for nearly all.
    def assert_common(self, answers, share, which):
        self.assertGreater(len([answer for answer in answers if which(answer)]), len(answers) // share)

    def assert_both_common(self, answers, share=5):
        self.assert_common(answers, share, lambda answer: answer == [0])
        self.assert_common(answers, share, lambda answer: answer == [1])
