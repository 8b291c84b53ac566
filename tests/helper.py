"""What the tests share: asking by written texts, and two plain ways to know the answer."""

import inspect
import re
import sys

from wholesays.sentences import is_true, least

PART = "(?:0|[1-9][0-9]?|[1-9]?[xyz])"
SUM = rf"{PART}(?:\+{PART})*"
RESTS = "|".join([f"%{m}=[0-{m - 1}]" for m in range(2, 10)])
CLAIM = re.compile(rf"\[{SUM}(?:[<=]{SUM}|{RESTS})\]")
WHOLE = "\u2022"
STEP = re.compile(rf"!{WHOLE}|\({WHOLE}[&|>]{WHOLE}\)|[AE][xyz]{WHOLE}")
SIGNS = {"&": "and", "|": "or"}


def as_bytes(text):
    return list(text.encode("latin-1"))


def ask_true(text):
    return is_true(as_bytes(text))


def ask_least(text):
    return least(as_bytes(text))


def seal(text):
    """The bytes of a text in a list that fails if it is changed."""
    def refuse(*args, **kwargs):
        raise AssertionError("changed")

    changing = ("__setitem__", "__delitem__", "__iadd__", "__imul__", "append", "clear", "extend", "insert", "pop",
                "remove", "reverse", "sort")
    return type("Sealed", (list,), {name: refuse for name in changing})(as_bytes(text))


def with_low_limit(work):
    """What work answers where only few calls may stand in one another."""
    before = sys.getrecursionlimit()
    sys.setrecursionlimit(len(inspect.stack(0)) + 30)
    try:
        return work()
    finally:
        sys.setrecursionlimit(before)


def is_text(text):
    """Whether it is a text, found from the inside out."""
    if text.count("A") + text.count("E") > 3 or text.count("[") > 8:
        return False
    text = CLAIM.sub(WHOLE, text)
    shorter = STEP.sub(WHOLE, text)
    while shorter != text:
        text = shorter
        shorter = STEP.sub(WHOLE, text)
    return text == WHOLE


def claim_source(claim):
    claim = re.sub("([1-9])([xyz])", r"\1*\2", claim)
    if "%" in claim:
        total, rest = claim.split("%")
        divisor, rest = rest.split("=")
        return f"(({total}) % {divisor} == {rest})"
    return "(" + claim.replace("=", "==") + ")"


def source(text, reaches):
    """Python for the text's start, and what is left of the text behind it."""
    sign, left = text[0], text[1:]
    if sign == "[":
        claim, left = left.split("]", 1)
        return claim_source(claim), left
    if sign == "!":
        inner, left = source(left, reaches)
        return f"(not {inner})", left
    if sign == "(":
        first, left = source(left, reaches)
        joined = left[0]
        second, left = source(left[1:], reaches)
        if joined == ">":
            return f"((not {first}) or {second})", left[1:]
        return f"({first} {SIGNS[joined]} {second})", left[1:]
    word = "all" if sign == "A" else "any"
    inner, behind = source(left[1:], reaches[1:])
    return f"{word}({inner} for {left[0]} in range({reaches[0]}))", behind


def whole_source(text, reaches):
    written, left = source(text, reaches)
    if left != "":
        raise ValueError(text)
    return written


def true_by_trial(text, reaches):
    """Whether it is so if A and E, from the outermost in, try just the numbers below these reaches."""
    return [1 if eval(whole_source(text, reaches)) else 0]


def least_by_trial(text, reaches):
    """The least x below the first reach, if A and E try just the numbers below the others."""
    found = eval(f"next((x for x in range({reaches[0]}) if {whole_source(text, reaches[1:])}), None)")
    return [0] if found is None else [1, found]
