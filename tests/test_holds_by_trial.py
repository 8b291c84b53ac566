"""Promise 3: many texts and numbers, each also answered by trying numbers, as far as their size calls for."""

import math
import random
import re
import unittest

from helper import ByTrial, Writer, ask_holds, holds_by_trial, whole_source

GREATEST = 18446744073709551615

# Of x, y and z, of 60 at most each, all but one make 1080 with a number of 99: claims change last at 1179, and
# rests come round within 2520.
ONE_DEEP_REACH = (3710,)

# Unknowns twice at most, a number of 4 at most on each side, divisors of 3 at most, and the third unknown is 4 at
# most: by the outer unknown things change last at 96 and come round within 12; below that, by the inner one,
# they change last at 232 and come round within 6.
TWO_DEEP_REACHES = (110, 250)

# The same, where the third unknown is 60 at most: 768 and 12, then 1684 and 6.
FAR_REACHES = (782, 1700)

EVERY = ("x", "y", "z")


def meeting(left, right, unknown, known):
    """The number of the unknown where the two sums are equal, rounded down; 0 if it makes no difference."""
    at_0, at_1 = [eval(f"{left}-({right})", {**known, unknown: number}) for number in (0, 1)]
    return -at_0 // (at_1 - at_0) if at_1 != at_0 else 0


def holds_near_changes(text, v):
    """Whether A or E with no other inside is so of v, if it tries just the numbers near 0 and near a change."""
    unknown, inside = text[1], whole_source(text[2:], ())
    known = dict(zip("xyz", v))
    spread = math.lcm(1, *[int(divisor) for divisor in re.findall("%(.)", text)]) + 3
    written = re.sub("([1-9])([xyz])", r"\1*\2", text)
    middles = {meeting(left, right, unknown, known) for left, right in re.findall(r"\[([^<=%]*)[<=]([^]]*)\]", written)}
    near = [number for middle in middles | {0} for number in range(max(middle - spread, 0), middle + spread)]
    word = "any" if text[0] == "E" else "all"
    return [1 if eval(f"{word}({inside} for {unknown} in near)", {**known, "near": near}) else 0]


class Chooser:
    """Chooses numbers for x, y and z by chance, always the same ones."""

    def __init__(self, seed):
        self.chance = random.Random(seed)

    def below(self, end):
        return [self.chance.randrange(end) for _ in EVERY]

    def great(self):
        """Near one another, or far, and often at the upper end."""
        base = self.chance.choice((0, 2 ** 32, 2 ** 53, 2 ** 63, GREATEST, self.chance.randrange(GREATEST)))
        near = [min(max(base + self.chance.randint(-30, 30), 0), GREATEST) for _ in EVERY]
        return [self.chance.choice((number, number, base, self.chance.randint(0, GREATEST))) for number in near]


class HoldsByTrial(ByTrial):
    def both_answers(self, write, count, choose, by_trial):
        answers = []
        while len(answers) < 2 * count:
            text = write()
            if len(text) <= 64:
                for v in (choose(), choose()):
                    answers.append(ask_holds(text, v))
                    self.assertEqual(answers[-1], by_trial(text, v), (text, v))
        self.assert_both_common(answers)

    def test_without_all_and_some(self):
        writer, chooser = Writer(31, 9, 99, 9), Chooser(31)
        for choose in (chooser.great, lambda: chooser.below(61)):
            self.both_answers(lambda: writer.text(EVERY, writer.chance.randint(1, 5)), 1500, choose,
                              lambda text, v: holds_by_trial(text, v, ()))

    def test_one_deep(self):
        writer, chooser = Writer(33, 9, 99, 9), Chooser(33)
        self.both_answers(lambda: writer.one_deep(EVERY), 1000, lambda: chooser.below(61),
                          lambda text, v: holds_by_trial(text, v, ONE_DEEP_REACH))

    def test_one_deep_and_great(self):
        writer, chooser = Writer(34, 9, 99, 9), Chooser(34)
        self.both_answers(lambda: writer.one_deep(EVERY), 1000, chooser.great, holds_near_changes)

    def test_one_deep_and_great_with_few_times(self):
        writer, chooser = Writer(35, 2, 20, 4), Chooser(35)
        self.both_answers(lambda: writer.one_deep(EVERY), 1500, chooser.great, holds_near_changes)

    def test_two_deep(self):
        writer, chooser = Writer(36, 2, 4, 3), Chooser(36)
        self.both_answers(lambda: writer.two_deep(EVERY), 1000, lambda: chooser.below(5),
                          lambda text, v: holds_by_trial(text, v, TWO_DEEP_REACHES))

    def test_two_deep_and_far(self):
        writer, chooser = Writer(37, 2, 4, 3), Chooser(37)
        self.both_answers(lambda: writer.two_deep(EVERY), 80, lambda: chooser.below(61),
                          lambda text, v: holds_by_trial(text, v, FAR_REACHES))

    def test_two_deep_and_fenced(self):
        writer, chooser = Writer(38, 3, 60, 4), Chooser(38)
        self.both_answers(lambda: writer.fenced(EVERY), 1000, lambda: chooser.below(61),
                          lambda text, v: holds_by_trial(text, v, (60, 60)))


if __name__ == "__main__":
    unittest.main()
