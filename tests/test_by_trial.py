"""Promises 1 and 2: many texts, each also answered by trying numbers, as far as their size calls for."""

import unittest

from helper import ByTrial, Crosser, Writer, ask_least, ask_true, least_by_trial, true_by_trial

# A number of 99 at most on each side: claims change last at 99, and rests come round within 2520.
ONE_DEEP_REACH = (2625,)

# Unknowns twice at most, a number of 4 at most on each side, divisors of 3 at most: by the outer unknown things
# change last at 48 and come round within 12; below that, by the inner one, they change last at 130 and come
# round within 6.
TWO_DEEP_REACHES = (62, 152)

# Of the gaps that are written here there is none where the outer number is 3 * 60 or more.
GAP_REACHES = (180, 600)


class Crossing(unittest.TestCase):
    def setUp(self):
        self.crosser = Crosser(13)

    def test_meeting_point_is_found(self):
        for _ in range(400):
            both, point = self.crosser.cross()
            for text, answer in ((f"ExEy{both}", 1), (f"EyEx{both}", 1), (f"AxAy!{both}", 0), (f"Ay!Ex{both}", 0)):
                self.assertEqual(ask_true(text), [answer], (text, point))

    def test_least_is_of_the_meeting_point(self):
        for _ in range(400):
            both, point = self.crosser.cross()
            swapped = both.translate(str.maketrans("xy", "yx"))
            for text, answer in ((f"Ey{both}", point[0]), (f"!Ay!{both}", point[0]), (f"Ey{swapped}", point[1])):
                self.assertEqual(ask_least(text), [1, answer], (text, point))

    def test_no_other_point_is_found(self):
        for _ in range(400):
            both, point = self.crosser.cross()
            divisor = self.crosser.chance.randint(2, 4)
            for rest in range(divisor):
                text = f"ExEy({both}&[x+2y%{divisor}={rest}])"
                if len(text) <= 64:
                    self.assertEqual(ask_true(text), [int((point[0] + 2 * point[1]) % divisor == rest)], (text, point))


class TrueByTrial(ByTrial):
    def both_answers(self, write, count, reaches):
        answers = self.compare(write, count, ask_true, lambda text: true_by_trial(text, reaches))
        self.assert_both_common(answers)

    def test_one_deep(self):
        self.both_answers(Writer(11, 9, 99, 9).one_deep, 1500, ONE_DEEP_REACH)

    def test_two_deep(self):
        self.both_answers(Writer(12, 2, 4, 3).two_deep, 1500, TWO_DEEP_REACHES)

    def test_two_deep_and_fenced(self):
        self.both_answers(Writer(14, 3, 60, 4).fenced, 1500, (60, 60))

    def test_gaps(self):
        self.both_answers(Writer(15, 3, 60, 4).gap, 150, GAP_REACHES)


class LeastByTrial(ByTrial):
    def all_answers(self, write, count, reaches):
        answers = self.compare(write, count, ask_least, lambda text: least_by_trial(text, reaches))
        self.assert_common(answers, 5, lambda answer: answer == [0])
        self.assert_common(answers, 8, lambda answer: answer[0] == 1 and answer[1] > 0)

    def test_without_all_and_some(self):
        self.all_answers(Writer(21, 9, 99, 9).flat, 1500, ONE_DEEP_REACH)

    def test_one_deep(self):
        self.all_answers(Writer(22, 2, 4, 3).of_x, 1500, TWO_DEEP_REACHES)

    def test_one_deep_and_fenced(self):
        self.all_answers(Writer(24, 3, 60, 4).fenced_of_x, 1500, (60, 60))

    def test_gaps(self):
        self.all_answers(Writer(25, 3, 60, 4).gap_of_x, 150, GAP_REACHES)

    def test_x_is_not_free(self):
        def by_trial(text):
            return [1, 0] if true_by_trial(text, (60, 60)) == [1] else [0]

        answers = self.compare(Writer(26, 3, 60, 4).fenced, 500, ask_least, by_trial)
        self.assert_common(answers, 5, lambda answer: answer == [0])
        self.assert_common(answers, 5, lambda answer: answer == [1, 0])


if __name__ == "__main__":
    unittest.main()
