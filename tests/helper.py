"""What the tests share: asking by written texts, and two plain ways to know the answer."""

import re

from wholesays.sentences import is_true

PART = "(?:0|[1-9][0-9]?|[1-9]?[xyz])"
SUM = rf"{PART}(?:\+{PART})*"
RESTS = "|".join([f"%{m}=[0-{m - 1}]" for m in range(2, 10)])
CLAIM = re.compile(rf"\[{SUM}(?:[<=]{SUM}|{RESTS})\]")
WHOLE = "\u2022"
STEP = re.compile(rf"!{WHOLE}|\({WHOLE}[&|>]{WHOLE}\)|[AE][xyz]{WHOLE}")
SIGNS = {"&": "and", "|": "or"}


def as_bytes(text):
    return list(text.encode("latin-1"))


def ask_true(text):
    return is_true(as_bytes(text))


def is_text(text):
    """Whether it is a text, found from the inside out."""
    if text.count("A") + text.count("E") > 3 or text.count("[") > 8:
        return False
    text = CLAIM.sub(WHOLE, text)
    shorter = STEP.sub(WHOLE, text)
    while shorter != text:
        text = shorter
        shorter = STEP.sub(WHOLE, text)
    return text == WHOLE


def claim_source(claim):
    claim = re.sub("([1-9])([xyz])", r"\1*\2", claim)
    if "%" in claim:
        total, rest = claim.split("%")
        divisor, rest = rest.split("=")
        return f"(({total}) % {divisor} == {rest})"
    return "(" + claim.replace("=", "==") + ")"


def source(text, reaches):
    """Python for the text's start, and what is left of the text behind it."""
    sign, left = text[0], text[1:]
    if sign == "[":
        claim, left = left.split("]", 1)
        return claim_source(claim), left
    if sign == "!":
        inner, left = source(left, reaches)
        return f"(not {inner})", left
    if sign == "(":
        first, left = source(left, reaches)
        joined = left[0]
        second, left = source(left[1:], reaches)
        if joined == ">":
            return f"((not {first}) or {second})", left[1:]
        return f"({first} {SIGNS[joined]} {second})", left[1:]
    word = "all" if sign == "A" else "any"
    inner, behind = source(left[1:], reaches[1:])
    return f"{word}({inner} for {left[0]} in range({reaches[0]}))", behind


def true_by_trial(text, reaches):
    """Whether it is so if A and E, from the outermost in, try just the numbers below these reaches."""
    written, left = source(text, reaches)
    if left != "":
        raise ValueError(text)
    return [1 if eval(written) else 0]
