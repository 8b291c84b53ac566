"""Promises 1 and 2: many texts, each also answered by trying numbers, as far as their size calls for."""

import random
import unittest

from helper import ask_least, ask_true, least_by_trial, true_by_trial

# A number of 99 at most on each side: claims change last at 99, and rests come round within 2520.
ONE_DEEP_REACH = (2625,)

# Unknowns twice at most, a number of 4 at most on each side, divisors of 3 at most: by the outer unknown things
# change last at 48 and come round within 12; below that, by the inner one, they change last at 130 and come
# round within 6.
TWO_DEEP_REACHES = (62, 152)

# Of the gaps that are written here there is none where the outer number is 3 * 60 or more.
GAP_REACHES = (180, 600)


class Writer:
    """Writes texts by chance, always the same ones."""

    def __init__(self, seed, most_times, most_number, most_divisor):
        self.chance = random.Random(seed)
        self.most_times = most_times
        self.most_number = most_number
        self.most_divisor = most_divisor

    def part(self, unknown):
        times = self.chance.randint(1, self.most_times)
        return unknown if times == 1 else f"{times}{unknown}"

    def total(self, bound):
        parts = [self.part(unknown) for unknown in bound if self.chance.random() < 0.6]
        if not parts or self.chance.random() < 0.5:
            parts.append(str(self.chance.randint(0, self.most_number)))
        self.chance.shuffle(parts)
        return "+".join(parts)

    def claim(self, bound):
        if self.chance.random() < 0.3:
            divisor = self.chance.randint(2, self.most_divisor)
            return f"[{self.total(bound)}%{divisor}={self.chance.randrange(divisor)}]"
        return f"[{self.total(bound)}{self.chance.choice('<=')}{self.total(bound)}]"

    def text(self, bound, claims):
        if self.chance.random() < 0.2:
            return "!" + self.text(bound, claims)
        if claims == 1:
            return self.claim(bound)
        first = self.chance.randint(1, claims - 1)
        sign = self.chance.choice("&|>")
        return f"({self.text(bound, first)}{sign}{self.text(bound, claims - first)})"

    def binder(self, unknown):
        return self.chance.choice("AE") + unknown

    def one_deep(self):
        unknown = self.chance.choice("xyz")
        return self.binder(unknown) + self.text([unknown], self.chance.randint(1, 6))

    def two_deep(self):
        outer, inner = self.chance.sample("xyz", 2)
        within = self.binder(inner) + self.text([outer, inner], self.chance.randint(1, 4))
        if self.chance.random() < 0.4:
            sign = self.chance.choice("&|>")
            within = f"({self.text([outer], 1)}{sign}{within})"
        return self.binder(outer) + within

    def flat(self):
        """Of x alone, without A and E."""
        return self.text(["x"], self.chance.randint(1, 6))

    def of_x(self):
        """One deep, with x free or bound twice over."""
        inner = self.chance.choice("yyyzzzx")
        within = self.binder(inner) + self.text(sorted({"x", inner}), self.chance.randint(1, 4))
        if inner == "x" or self.chance.random() < 0.4:
            sign = self.chance.choice("&|>")
            within = f"({self.text(['x'], 1)}{sign}{within})"
        return within

    def side(self, bound):
        parts = [self.part(unknown) for unknown in bound if self.chance.random() < 0.7]
        return "+".join(parts + [str(self.chance.randint(0, self.most_number))])

    def fence(self, unknown):
        """A claim that no number from 60 on fulfils."""
        return f"[{unknown}<{self.chance.randint(40, 60)}]"

    def fenced(self):
        """Two deep, and decided by numbers below 60."""
        outer, inner = self.chance.sample("xyz", 2)
        pair = [outer, inner]
        claims = [f"[{self.side(pair)}{sign}{self.side(pair)}]" for sign in self.chance.choice(("==", "=<", "<<"))]
        rest = self.claim(pair) if self.chance.random() < 0.5 else self.fence(outer)
        within = f"(({claims[0]}&{claims[1]})&({rest}&{self.fence(inner)}))"
        return self.chance.choice((
            f"E{outer}({self.fence(outer)}&E{inner}{within})",
            f"A{outer}({self.fence(outer)}>!E{inner}{within})",
            f"E{outer}({self.fence(outer)}&A{inner}({self.fence(inner)}>({claims[0]}|{claims[1]})))",
            f"A{outer}({self.fence(outer)}>E{inner}({self.fence(inner)}&!({claims[0]}&{claims[1]})))",
        ))

    def fenced_of_x(self):
        """One deep, with x free, and decided by numbers below 60."""
        pair = ["x", self.chance.choice("yz")]
        claims = [f"[{self.side(pair)}{sign}{self.side(pair)}]" for sign in self.chance.choice(("==", "=<", "<<"))]
        fence = self.fence(pair[1])
        return self.chance.choice((
            f"({self.fence('x')}&E{pair[1]}(({claims[0]}&{claims[1]})&{fence}))",
            f"({self.fence('x')}&A{pair[1]}({fence}>({claims[0]}|{claims[1]})))",
            f"!({self.fence('x')}>E{pair[1]}({fence}&({claims[0]}>{claims[1]})))",
        ))

    def gap(self):
        """For some number the gap is as gap_of says."""
        outer, inner = self.chance.sample("xyz", 2)
        return f"E{outer}{self.gap_of(outer, inner)}"

    def gap_of_x(self):
        return self.gap_of("x", self.chance.choice("yz"))

    def gap_of(self, outer, inner):
        """Of numbers between two sums, which get ever fewer: there are some, and all leave a rest."""
        while True:
            a, b, c, d = [self.chance.randint(1, self.most_times) for _ in range(4)]
            if a * c > b * d:
                break
        number = self.chance.randint(self.most_number // 2, self.most_number)
        between = f"([{a}{outer}<{b}{inner}]&[{c}{inner}<{d}{outer}+{number}])"
        divisor = self.chance.randint(2, self.most_divisor)
        rest = f"[{inner}%{divisor}={self.chance.randrange(divisor)}]"
        return f"(E{inner}{between}&A{inner}({between}>{rest}))"


class Crossing(unittest.TestCase):
    """Two claims of equal sums that can only meet in one point."""

    def setUp(self):
        self.chance = random.Random(13)

    def line(self, point):
        left = [self.chance.randint(0, 3) for _ in point]
        right = [self.chance.randint(0, 3) for _ in point]
        slopes = [a - b for a, b in zip(left, right)]
        number = -sum(slope * value for slope, value in zip(slopes, point))
        return left, right, slopes, number

    def written(self, line):
        left, right, _, number = line
        sides = []
        for times, alone in ((left, max(number, 0)), (right, max(-number, 0))):
            parts = [f"{count}{unknown}" for count, unknown in zip(times, "xy") if count > 0]
            sides.append("+".join(parts + [str(alone)]))
        return f"[{sides[0]}={sides[1]}]"

    def cross(self):
        """Two claims that meet in a point, and the point."""
        while True:
            point = [self.chance.randint(0, 200), self.chance.randint(0, 200)]
            first, second = self.line(point), self.line(point)
            crossing = first[2][0] * second[2][1] != first[2][1] * second[2][0]
            if crossing and abs(first[3]) <= 60 and abs(second[3]) <= 60:
                return f"({self.written(first)}&{self.written(second)})", point

    def test_meeting_point_is_found(self):
        for _ in range(400):
            both, point = self.cross()
            for text, answer in ((f"ExEy{both}", 1), (f"EyEx{both}", 1), (f"AxAy!{both}", 0), (f"Ay!Ex{both}", 0)):
                self.assertEqual(ask_true(text), [answer], (text, point))

    def test_least_is_of_the_meeting_point(self):
        for _ in range(400):
            both, point = self.cross()
            swapped = both.translate(str.maketrans("xy", "yx"))
            for text, answer in ((f"Ey{both}", point[0]), (f"!Ay!{both}", point[0]), (f"Ey{swapped}", point[1])):
                self.assertEqual(ask_least(text), [1, answer], (text, point))

    def test_no_other_point_is_found(self):
        for _ in range(400):
            both, point = self.cross()
            divisor = self.chance.randint(2, 4)
            for rest in range(divisor):
                text = f"ExEy({both}&[x+2y%{divisor}={rest}])"
                if len(text) <= 64:
                    self.assertEqual(ask_true(text), [int((point[0] + 2 * point[1]) % divisor == rest)], (text, point))


class ByTrial(unittest.TestCase):
    def compare(self, write, count, ask, answer_by_trial):
        answers = []
        while len(answers) < count:
            text = write()
            if len(text) <= 64:
                answer = ask(text)
                self.assertEqual(answer, answer_by_trial(text), text)
                answers.append(answer)
        return answers

    # No answer may stand for nearly all.
    def assert_common(self, answers, share, which):
        self.assertGreater(len([answer for answer in answers if which(answer)]), len(answers) // share)


class TrueByTrial(ByTrial):
    def both_answers(self, write, count, reaches):
        answers = self.compare(write, count, ask_true, lambda text: true_by_trial(text, reaches))
        self.assert_common(answers, 5, lambda answer: answer == [0])
        self.assert_common(answers, 5, lambda answer: answer == [1])

    def test_one_deep(self):
        self.both_answers(Writer(11, 9, 99, 9).one_deep, 1500, ONE_DEEP_REACH)

    def test_two_deep(self):
        self.both_answers(Writer(12, 2, 4, 3).two_deep, 1500, TWO_DEEP_REACHES)

    def test_two_deep_and_fenced(self):
        self.both_answers(Writer(14, 3, 60, 4).fenced, 1500, (60, 60))

    def test_gaps(self):
        self.both_answers(Writer(15, 3, 60, 4).gap, 150, GAP_REACHES)


class LeastByTrial(ByTrial):
    def all_answers(self, write, count, reaches):
        answers = self.compare(write, count, ask_least, lambda text: least_by_trial(text, reaches))
        self.assert_common(answers, 5, lambda answer: answer == [0])
        self.assert_common(answers, 8, lambda answer: answer[0] == 1 and answer[1] > 0)

    def test_without_all_and_some(self):
        self.all_answers(Writer(21, 9, 99, 9).flat, 1500, ONE_DEEP_REACH)

    def test_one_deep(self):
        self.all_answers(Writer(22, 2, 4, 3).of_x, 1500, TWO_DEEP_REACHES)

    def test_one_deep_and_fenced(self):
        self.all_answers(Writer(24, 3, 60, 4).fenced_of_x, 1500, (60, 60))

    def test_gaps(self):
        self.all_answers(Writer(25, 3, 60, 4).gap_of_x, 150, GAP_REACHES)

    def test_x_is_not_free(self):
        def by_trial(text):
            return [1, 0] if true_by_trial(text, (60, 60)) == [1] else [0]

        answers = self.compare(Writer(26, 3, 60, 4).fenced, 500, ask_least, by_trial)
        self.assert_common(answers, 5, lambda answer: answer == [0])
        self.assert_common(answers, 5, lambda answer: answer == [1, 0])


if __name__ == "__main__":
    unittest.main()
