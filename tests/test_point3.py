"""Point 3: alive, would, need, leaves, best, hotter, half."""

import unittest

from line import MILLION, MOST, last, tell

FIVE = [1, 2, 3, 4, 5]
HALVES = ("warm", 500, 10)


class Alive(unittest.TestCase):
    def test_alive_then_green(self):
        told = tell(("begin", 0), HALVES, ("batch", 0, FIVE), ("alive", 0), ("heat", 0, 0, 3), ("alive", 0))
        self.assertEqual((told[3], told[5]), ([MILLION, MILLION], [125000, 970299]))

    def test_no_such(self):
        for b in (1, 40, MOST):
            self.assertEqual(last(("begin", 0), ("batch", 0, FIVE), ("alive", b)), [-2])

    def test_unwashed_and_gone(self):
        told = tell(
            ("begin", 0), HALVES, ("batch", 0, FIVE), ("heat", 0, 0, 1), ("sieve", 0, 1), ("heat", 1, 0, 1),
            ("batch", 5, FIVE), ("alive", 0), ("alive", 3),
        )
        self.assertEqual(told[-2:], [[500000, 990000], [MILLION, MILLION]])


class Would(unittest.TestCase):
    LINE = (("begin", 1000), HALVES, ("warm", 1, 0), ("warm", 999, 0), ("batch", 0, FIVE))

    def test_alive_green_and_enough(self):
        self.assertEqual(last(*self.LINE, ("would", 0, 0, 9)), [1953, 913516, 0])
        self.assertEqual(last(*self.LINE, ("would", 0, 0, 10)), [976, 904380, 1])
        self.assertEqual(last(*self.LINE, ("would", 0, 2, 1)), [1000, MILLION, 1])

    def test_no_second_and_six_hundred(self):
        self.assertEqual(last(*self.LINE, ("would", 0, 0, 0)), [MILLION, MILLION, 0])
        self.assertEqual(last(*self.LINE, ("heat", 0, 0, 10), ("would", 0, 1, 0)), [976, 904380, 1])
        self.assertEqual(last(*self.LINE, ("would", 0, 1, 600)), [548416, MILLION, 0])

    def test_above_600(self):
        for s in (601, MOST):
            self.assertEqual(last(*self.LINE, ("would", 0, 0, s)), [-22])

    def test_no_such(self):
        for b, w in ((1, 0), (0, 3), (MOST, 0), (0, MOST)):
            for s in (0, 5, 601, MOST):
                self.assertEqual(last(*self.LINE, ("would", b, w, s)), [-2])

    def test_unwashed_and_gone(self):
        told = tell(
            *self.LINE, ("heat", 0, 0, 1), ("sieve", 0, 1), ("batch", 5, FIVE), ("would", 0, 0, 1), ("would", 3, 0, 1),
        )
        self.assertEqual(told[-2:], [[250000, 980100, 0], [500000, 990000, 0]])


class NeedAndLeaves(unittest.TestCase):
    def test_just_long_enough(self):
        for limit, seconds, green in ((0, 20, 817900), (1, 19, 826162), (976, 10, 904380), (999999, 1, 990000)):
            told = tell(("begin", limit), HALVES, ("batch", 0, FIVE), ("need", 0, 0), ("leaves", 0, 0))
            self.assertEqual(told[-2:], [[seconds], [green]])

    def test_by_the_batch_and_the_warmth_asked(self):
        told = tell(
            ("begin", 0), HALVES, ("warm", 999, 1), ("batch", 0, FIVE), ("batch", 0, FIVE), ("heat", 1, 0, 19),
            ("need", 0, 1), ("need", 1, 1), ("leaves", 0, 1), ("leaves", 1, 1), ("leaves", 1, 0),
        )
        self.assertEqual(told[-5:], [[3], [1], [997002], [825335], [817900]])

    def test_little_enough_now(self):
        told = tell(
            ("begin", 976), HALVES, ("warm", 1, 999), ("batch", 0, FIVE), ("heat", 0, 0, 10),
            ("need", 0, 0), ("leaves", 0, 0), ("need", 0, 1), ("leaves", 0, 1),
        )
        self.assertEqual(told[-4:], [[0], [904380], [0], [904380]])

    def test_fades_nothing(self):
        told = tell(("begin", 0), ("warm", 250, 0), ("batch", 0, FIVE), ("need", 0, 0), ("leaves", 0, 0))
        self.assertEqual(told[-2:], [[46], [MILLION]])

    def test_six_hundred_and_one_more(self):
        line = (("warm", 1, 0), ("batch", 0, FIVE), ("need", 0, 0), ("leaves", 0, 0))
        self.assertEqual(tell(("begin", 548416), *line)[-2:], [[600], [MILLION]])
        self.assertEqual(tell(("begin", 548965), *line)[-2:], [[599], [MILLION]])
        for limit in (0, 547867, 548415):
            self.assertEqual(tell(("begin", limit), *line)[-2:], [[-33], [-33]])

    def test_one_alive_and_a_limit_of_0(self):
        told = tell(("begin", 0), ("warm", 1, 1), HALVES, ("batch", 0, FIVE), ("heat", 0, 1, 19), ("need", 0, 0))
        self.assertEqual(told[-1], [1])

    def test_no_such(self):
        for b, w in ((1, 0), (0, 1), (1, 1), (MOST, 0), (0, MOST)):
            for name in ("need", "leaves"):
                self.assertEqual(last(("begin", 0), ("warm", 1, 0), ("batch", 0, FIVE), (name, b, w)), [-2])

    def test_unwashed_and_gone(self):
        told = tell(
            ("begin", 0), HALVES, ("batch", 0, FIVE), ("heat", 0, 0, 1), ("sieve", 0, 1), ("batch", 5, FIVE),
            ("need", 0, 0), ("leaves", 0, 0), ("need", 3, 0), ("leaves", 3, 0),
        )
        self.assertEqual(told[-4:], [[19], [817900], [20], [817900]])


class Best(unittest.TestCase):
    def test_most_green(self):
        told = tell(("begin", 1000), HALVES, ("warm", 900, 100), ("warm", 100, 5), ("batch", 0, FIVE), ("best", 0))
        self.assertEqual(told[-1], [0, 10, 904380])
        told = tell(("begin", 1000), ("warm", 900, 100), ("warm", 100, 5), HALVES, ("batch", 0, FIVE), ("best", 0))
        self.assertEqual(told[-1], [2, 10, 904380])

    def test_of_alike_ones_the_first(self):
        told = tell(
            ("begin", 0), ("warm", 500, 1), ("warm", 250, 0), ("warm", 500, 0), ("warm", 999, 0), ("batch", 0, FIVE),
            ("best", 0),
        )
        self.assertEqual(told[-1], [1, 46, MILLION])

    def test_warmths_that_never_do_are_passed_over(self):
        told = tell(("begin", 0), ("warm", 1, 0), HALVES, ("warm", 1, 0), ("batch", 0, FIVE), ("best", 0))
        self.assertEqual(told[-1], [1, 20, 817900])

    def test_nothing_green_is_left(self):
        told = tell(("begin", 0), ("warm", 1, 0), ("warm", 999, 999), ("batch", 0, FIVE), ("best", 0))
        self.assertEqual(told[-1], [1, 3, 0])

    def test_little_enough_now(self):
        told = tell(
            ("begin", 976), ("warm", 1, 999), HALVES, ("batch", 0, FIVE), ("heat", 0, 1, 10), ("best", 0),
        )
        self.assertEqual(told[-1], [0, 0, 904380])

    def test_at_no_warmth(self):
        self.assertEqual(last(("begin", 999999), ("batch", 0, FIVE), ("best", 0)), [-33])
        told = tell(("begin", 0), ("warm", 1, 0), ("warm", 2, 0), ("batch", 0, FIVE), ("best", 0))
        self.assertEqual(told[-1], [-33])

    def test_six_hundred_and_one_more(self):
        line = (("warm", 1, 0), ("batch", 0, FIVE), ("best", 0))
        self.assertEqual(last(("begin", 548416), *line), [0, 600, MILLION])
        self.assertEqual(last(("begin", 548415), *line), [-33])

    def test_no_such(self):
        self.assertEqual(last(("begin", 0), ("best", 0)), [-2])
        for b in (1, MOST):
            self.assertEqual(last(("begin", 0), HALVES, ("batch", 0, FIVE), ("best", b)), [-2])

    def test_unwashed_and_gone(self):
        told = tell(
            ("begin", 0), HALVES, ("batch", 0, FIVE), ("heat", 0, 0, 1), ("sieve", 0, 1), ("batch", 5, FIVE),
            ("best", 0), ("best", 3),
        )
        self.assertEqual(told[-2:], [[0, 19, 817900], [0, 20, 817900]])


class Hotter(unittest.TestCase):
    LINE = (("begin", 0), ("warm", 500, 999), ("warm", 501, 0), ("warm", 500, 0), ("warm", 999, 0), ("warm", 1, 0))

    def test_kills_more(self):
        kills = (500, 501, 500, 999, 1)
        for v in range(5):
            for w in range(5):
                self.assertEqual(last(*self.LINE, ("hotter", v, w)), [1 if kills[v] > kills[w] else 0])

    def test_one_less_alike_and_one_more(self):
        for v, w, hotter in ((1, 0, 1), (0, 1, 0), (0, 2, 0), (2, 0, 0), (3, 3, 0), (3, 4, 1), (4, 3, 0)):
            self.assertEqual(last(*self.LINE, ("hotter", v, w)), [hotter])

    def test_no_such(self):
        for v, w in ((5, 0), (0, 5), (5, 5), (MOST, 0), (0, MOST), (MOST, MOST)):
            self.assertEqual(last(*self.LINE, ("hotter", v, w)), [-2])
        self.assertEqual(last(("begin", 0), ("batch", 0, FIVE), ("hotter", 0, 0)), [-2])

    def test_begin_again(self):
        told = tell(*self.LINE, ("begin", 0), ("hotter", 1, 0), ("warm", 9, 0), ("hotter", 0, 0), ("hotter", 1, 0))
        self.assertEqual(told[-4:], [[-2], [0], [0], [-2]])


class Half(unittest.TestCase):
    def test_first_seconds(self):
        found = ((2, 347), (3, 231), (206, 4), (207, 3), (292, 3), (293, 2), (499, 2), (500, 1), (501, 1), (999, 1))
        for kills, seconds in found:
            self.assertEqual(last(("begin", 0), ("warm", kills, 0), ("half", 0)), [seconds], kills)

    def test_not_within_600(self):
        # After 600 seconds 548,416 of a million are alive still.
        self.assertEqual(last(("begin", 0), ("warm", 1, 0), ("half", 0)), [-33])

    def test_no_more_than_half_and_a_second_less_is_more(self):
        for kills in range(2, 1000, 7):
            line = (("begin", 0), ("warm", kills, 0), ("batch", 0, FIVE))
            seconds = last(*line, ("half", 0))[0]
            told = tell(*line, ("would", 0, 0, seconds), ("would", 0, 0, seconds - 1))
            self.assertLessEqual(told[-2][0], 500000)
            self.assertGreater(told[-1][0], 500000)

    def test_of_a_million_whatever_limit_and_batches(self):
        for limit in (0, 499999, 500000, 999999):
            told = tell(("begin", limit), ("warm", 499, 999), ("warm", 1, 0), ("half", 0), ("half", 1),
                        ("batch", 0, FIVE), ("heat", 0, 0, 3), ("half", 0), ("half", 1))
            self.assertEqual((told[3:5], told[7:]), ([[2], [-33]], [[2], [-33]]))

    def test_no_such(self):
        for w in (1, 5, MOST):
            self.assertEqual(last(("begin", 0), HALVES, ("batch", 0, FIVE), ("batch", 0, FIVE), ("half", w)), [-2])
        self.assertEqual(last(("begin", 0), ("batch", 0, FIVE), ("half", 0)), [-2])


if __name__ == "__main__":
    unittest.main()
