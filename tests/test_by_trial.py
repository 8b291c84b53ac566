"""Promise 1: many sentences, each also answered by trying numbers, as far as their size calls for."""

import random
import unittest

from helper import ask_true, true_by_trial

# A number of 99 at most on each side: claims change last at 99, and rests come round within 2520.
ONE_DEEP_REACH = (2625,)

# Unknowns twice at most, a number of 4 at most on each side, divisors of 3 at most: by the outer unknown things
# change last at 48 and come round within 12; below that, by the inner one, they change last at 130 and come
# round within 6.
TWO_DEEP_REACHES = (62, 152)


class Writer:
    """Writes sentences by chance, always the same ones."""

    def __init__(self, seed, most_times, most_number, most_divisor):
        self.chance = random.Random(seed)
        self.most_times = most_times
        self.most_number = most_number
        self.most_divisor = most_divisor

    def part(self, unknown):
        times = self.chance.randint(1, self.most_times)
        return unknown if times == 1 else f"{times}{unknown}"

    def total(self, bound):
        parts = [self.part(unknown) for unknown in bound if self.chance.random() < 0.6]
        if not parts or self.chance.random() < 0.5:
            parts.append(str(self.chance.randint(0, self.most_number)))
        self.chance.shuffle(parts)
        return "+".join(parts)

    def claim(self, bound):
        if self.chance.random() < 0.3:
            divisor = self.chance.randint(2, self.most_divisor)
            return f"[{self.total(bound)}%{divisor}={self.chance.randrange(divisor)}]"
        return f"[{self.total(bound)}{self.chance.choice('<=')}{self.total(bound)}]"

    def text(self, bound, claims):
        if self.chance.random() < 0.2:
            return "!" + self.text(bound, claims)
        if claims == 1:
            return self.claim(bound)
        first = self.chance.randint(1, claims - 1)
        sign = self.chance.choice("&|>")
        return f"({self.text(bound, first)}{sign}{self.text(bound, claims - first)})"

    def binder(self, unknown):
        return self.chance.choice("AE") + unknown

    def one_deep(self):
        unknown = self.chance.choice("xyz")
        return self.binder(unknown) + self.text([unknown], self.chance.randint(1, 6))

    def two_deep(self):
        outer, inner = self.chance.sample("xyz", 2)
        within = self.binder(inner) + self.text([outer, inner], self.chance.randint(1, 4))
        if self.chance.random() < 0.4:
            sign = self.chance.choice("&|>")
            within = f"({self.text([outer], 1)}{sign}{within})"
        return self.binder(outer) + within

    def side(self, bound):
        parts = [self.part(unknown) for unknown in bound if self.chance.random() < 0.7]
        return "+".join(parts + [str(self.chance.randint(0, self.most_number))])

    def fence(self, unknown):
        """A claim that no number from 60 on fulfils."""
        return f"[{unknown}<{self.chance.randint(40, 60)}]"

    def fenced(self):
        """Two deep, and decided by numbers below 60."""
        outer, inner = self.chance.sample("xyz", 2)
        pair = [outer, inner]
        claims = [f"[{self.side(pair)}{sign}{self.side(pair)}]" for sign in self.chance.choice(("==", "=<", "<<"))]
        rest = self.claim(pair) if self.chance.random() < 0.5 else self.fence(outer)
        within = f"(({claims[0]}&{claims[1]})&({rest}&{self.fence(inner)}))"
        return self.chance.choice((
            f"E{outer}({self.fence(outer)}&E{inner}{within})",
            f"A{outer}({self.fence(outer)}>!E{inner}{within})",
            f"E{outer}({self.fence(outer)}&A{inner}({self.fence(inner)}>({claims[0]}|{claims[1]})))",
            f"A{outer}({self.fence(outer)}>E{inner}({self.fence(inner)}&!({claims[0]}&{claims[1]})))",
        ))

    def gap(self):
        """Of numbers between two sums, which get ever fewer: there are some, and all leave a rest."""
        while True:
            a, b, c, d = [self.chance.randint(1, self.most_times) for _ in range(4)]
            if a * c > b * d:
                break
        number = self.chance.randint(self.most_number // 2, self.most_number)
        outer, inner = self.chance.sample("xyz", 2)
        between = f"([{a}{outer}<{b}{inner}]&[{c}{inner}<{d}{outer}+{number}])"
        divisor = self.chance.randint(2, self.most_divisor)
        rest = f"[{inner}%{divisor}={self.chance.randrange(divisor)}]"
        return f"E{outer}(E{inner}{between}&A{inner}({between}>{rest}))"


class Crossing(unittest.TestCase):
    """Two claims of equal sums that can only meet in one point."""

    def setUp(self):
        self.chance = random.Random(13)

    def line(self, point):
        left = [self.chance.randint(0, 3) for _ in point]
        right = [self.chance.randint(0, 3) for _ in point]
        slopes = [a - b for a, b in zip(left, right)]
        number = -sum(slope * value for slope, value in zip(slopes, point))
        return left, right, slopes, number

    def written(self, line):
        left, right, _, number = line
        sides = []
        for times, alone in ((left, max(number, 0)), (right, max(-number, 0))):
            parts = [f"{count}{unknown}" for count, unknown in zip(times, "xy") if count > 0]
            sides.append("+".join(parts + [str(alone)]))
        return f"[{sides[0]}={sides[1]}]"

    def cross(self):
        """Two claims that meet in a point, and the point."""
        while True:
            point = [self.chance.randint(0, 200), self.chance.randint(0, 200)]
            first, second = self.line(point), self.line(point)
            crossing = first[2][0] * second[2][1] != first[2][1] * second[2][0]
            if crossing and abs(first[3]) <= 60 and abs(second[3]) <= 60:
                return f"({self.written(first)}&{self.written(second)})", point

    def test_meeting_point_is_found(self):
        for _ in range(400):
            both, point = self.cross()
            for text, answer in ((f"ExEy{both}", 1), (f"EyEx{both}", 1), (f"AxAy!{both}", 0), (f"Ay!Ex{both}", 0)):
                self.assertEqual(ask_true(text), [answer], (text, point))

    def test_no_other_point_is_found(self):
        for _ in range(400):
            both, point = self.cross()
            divisor = self.chance.randint(2, 4)
            for rest in range(divisor):
                text = f"ExEy({both}&[x+2y%{divisor}={rest}])"
                if len(text) <= 64:
                    self.assertEqual(ask_true(text), [int((point[0] + 2 * point[1]) % divisor == rest)], (text, point))


class ByTrial(unittest.TestCase):
    def compare(self, write, count, reaches):
        answers = []
        while len(answers) < count:
            text = write()
            if len(text) <= 64:
                answer = ask_true(text)
                self.assertEqual(answer, true_by_trial(text, reaches), text)
                answers.append(answer)
        # Neither answer may stand for nearly all.
        for answer in ([0], [1]):
            self.assertGreater(answers.count(answer), count // 5)

    def test_one_deep(self):
        self.compare(Writer(11, 9, 99, 9).one_deep, 1500, ONE_DEEP_REACH)

    def test_two_deep(self):
        self.compare(Writer(12, 2, 4, 3).two_deep, 1500, TWO_DEEP_REACHES)

    def test_two_deep_and_fenced(self):
        self.compare(Writer(14, 3, 60, 4).fenced, 1500, (60, 60))

    def test_gaps(self):
        # By a*c > b*d there is no gap where the outer number is 3 * 60 or more.
        self.compare(Writer(15, 3, 60, 4).gap, 150, (180, 600))


if __name__ == "__main__":
    unittest.main()
