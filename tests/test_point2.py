"""Point 2: sieve, mix, heat, enough, pack."""

import unittest

from blanched.changes import mixture_of, part_of, sieve_batch
from blanched.kitchen import Batch, Kitchen
from line import MILLION, MOST, last, tell

FIVE = [1, 2, 3, 4, 5]
HALVES = ("warm", 500, 10)
# Thirty-nine batches: 11 first ones (0 to 10), and 14 times two more of a sieve (11 to 38).
THIRTY_NINE = (
    ("begin", 0), *[("batch", 0, [1] * 5)] * 11,
    *[("sieve", b, 1) for b in range(11)], *[("sieve", 12 + 2 * k, 2) for k in range(3)],
)


def with_gone(*calls):
    """Batch 0 is gone, sieved to 1 and 2; batch 3 has waste; warmths 0 and 1."""
    return (
        ("begin", 1000), HALVES, ("warm", 999, 0), ("batch", 0, FIVE), ("sieve", 0, 2), ("batch", 7, FIVE), *calls,
    )


class Sieve(unittest.TestCase):
    def test_each_mesh(self):
        for m, through, stays in ((1, 1, 14), (2, 3, 12), (3, 6, 9), (4, 10, 5)):
            self.assertEqual(last(("begin", 0), ("batch", 0, FIVE), ("sieve", 0, m)), [1, through, stays])

    def test_through_comes_first_and_keeps_its_sizes(self):
        told = tell(
            ("begin", 0), ("batch", 0, FIVE), ("sieve", 0, 3), ("sieve", 1, 1), ("sieve", 4, 2),
            ("sieve", 2, 4), ("sieve", 1, 1),
        )
        self.assertEqual(told[2:], [[1, 6, 9], [3, 1, 5], [5, 2, 3], [7, 4, 5], [-16]])

    def test_no_such(self):
        self.assertEqual(last(("begin", 0), ("sieve", 0, 1)), [-2])
        self.assertEqual(last(("begin", 0), ("batch", 0, FIVE), ("sieve", 1, 1)), [-2])
        self.assertEqual(last(("begin", 0), ("batch", 0, FIVE), ("sieve", MOST, 1)), [-2])

    def test_mesh_is_1_to_4(self):
        for m in (0, 5, 6, MOST):
            self.assertEqual(last(("begin", 0), ("batch", 0, FIVE), ("sieve", 0, m)), [-22])

    def test_gone_or_unwashed(self):
        self.assertEqual(last(*with_gone(("sieve", 0, 1))), [-16])
        self.assertEqual(last(*with_gone(("sieve", 3, 1))), [-16])

    def test_nothing_below_or_nothing_above(self):
        for m in (1, 2, 3, 4):
            below = [1] * m + [0] * (5 - m)
            above = [0] * m + [1] * (5 - m)
            self.assertEqual(last(("begin", 0), ("batch", 0, below), ("sieve", 0, m)), [-33])
            self.assertEqual(last(("begin", 0), ("batch", 0, above), ("sieve", 0, m)), [-33])

    def test_more_than_40(self):
        told = tell(
            *THIRTY_NINE, ("sieve", 18, 2), ("sieve", 18, 1), ("mix", 11, 13), ("sieve", 18, 2), ("alive", 40),
        )
        self.assertEqual(told[-5:], [[-28], [-33], [39, 2], [-28], [-2]])

    def test_to_just_40(self):
        told = tell(
            ("begin", 0), *[("batch", 0, [1] * 5)] * 10, *[("sieve", b, 1) for b in range(10)],
            *[("sieve", 11 + 2 * k, 2) for k in range(4)], ("sieve", 19, 2), ("alive", 39), ("alive", 40),
        )
        self.assertEqual(told[-3:], [[38, 1, 3], [MILLION, MILLION], [-2]])

    def test_which_is_told_first(self):
        self.assertEqual(last(*with_gone(("sieve", 9, 0))), [-2])
        self.assertEqual(last(*with_gone(("sieve", 0, 0))), [-22])
        self.assertEqual(last(*with_gone(("sieve", 3, 5))), [-22])
        unwashed = (("begin", 0), ("batch", 1, [1, 0, 0, 0, 0]))
        self.assertEqual(last(*unwashed, ("sieve", 0, 1)), [-16])
        self.assertEqual(last(*THIRTY_NINE, ("sieve", 0, 1)), [-16])
        self.assertEqual(last(*THIRTY_NINE, ("sieve", 11, 1)), [-33])

    def test_parts_are_as_alive_and_green(self):
        told = tell(
            ("begin", 0), HALVES, ("batch", 0, FIVE), ("heat", 0, 0, 2), ("sieve", 0, 2), ("alive", 1), ("alive", 2),
        )
        self.assertEqual(told[-2:], [[250000, 980100], [250000, 980100]])

    def test_parts_are_heated_each_for_itself(self):
        told = tell(
            ("begin", 0), HALVES, ("batch", 0, FIVE), ("sieve", 0, 2), ("heat", 1, 0, 1),
            ("alive", 0), ("alive", 1), ("alive", 2),
        )
        self.assertEqual(told[-3:], [[MILLION, MILLION], [500000, 990000], [MILLION, MILLION]])

    def test_parts_have_five_sizes(self):
        for m in (1, 2, 3, 4):
            kitchen = Kitchen()
            kitchen.batches.append(Batch(0, list(FIVE), 5, 6, [0]))
            sieve_batch(kitchen, 0, m)
            kept = [batch.sizes for batch in kitchen.batches]
            self.assertEqual(kept, [FIVE, FIVE[:m] + [0] * (5 - m), [0] * m + FIVE[m:]])

    def test_parts_are_of_the_same_first_batches(self):
        batch = Batch(0, FIVE, 5, 6, [1, 4])
        part = part_of(batch, [1, 0, 0, 0, 0])
        self.assertEqual((part.sizes, part.alive, part.green, part.roots), ([1, 0, 0, 0, 0], 5, 6, [1, 4]))


class Mix(unittest.TestCase):
    def test_number_and_kilograms(self):
        told = tell(("begin", 0), ("batch", 0, FIVE), ("batch", 0, [10000] * 5), ("mix", 0, 1))
        self.assertEqual(told[3], [2, 50015])

    def test_sizes_together(self):
        line = (("begin", 0), ("batch", 0, FIVE), ("batch", 0, [10, 20, 30, 40, 50]), ("mix", 1, 0))
        for m, through, stays in ((1, 11, 154), (2, 33, 132), (3, 66, 99), (4, 110, 55)):
            self.assertEqual(last(*line, ("sieve", 2, m)), [3, through, stays])

    def test_both_are_gone(self):
        told = tell(
            ("begin", 0), ("batch", 0, FIVE), ("batch", 0, FIVE), ("mix", 0, 1), ("pack", 0), ("pack", 1), ("pack", 2),
        )
        self.assertEqual(told[-3:], [[-16], [-16], [-74]])

    def test_no_such(self):
        for b, c in ((0, 1), (1, 0), (1, 1), (MOST, MOST), (0, MOST)):
            self.assertEqual(last(("begin", 0), ("batch", 0, FIVE), ("mix", b, c)), [-2])

    def test_the_same(self):
        self.assertEqual(last(("begin", 0), ("batch", 0, FIVE), ("mix", 0, 0)), [-22])

    def test_gone_or_unwashed(self):
        for b, c in ((0, 1), (1, 0), (3, 1), (1, 3), (0, 3)):
            self.assertEqual(last(*with_gone(("mix", b, c))), [-16])

    def test_not_as_much_alive(self):
        line = (("begin", 0), ("warm", 1, 0), ("batch", 0, FIVE), ("batch", 0, FIVE), ("heat", 0, 0, 1))
        self.assertEqual(last(*line, ("mix", 0, 1)), [-33])
        self.assertEqual(last(*line, ("mix", 1, 0)), [-33])
        self.assertEqual(last(*line, ("heat", 1, 0, 1), ("mix", 1, 0)), [2, 30])

    def test_heated_as_long_by_other_warmths(self):
        line = (("begin", 0), ("warm", 9, 1), ("warm", 9, 2), ("warm", 8, 1), ("batch", 0, FIVE), ("batch", 0, FIVE))
        for v, w, answer in ((0, 1, [-33]), (0, 2, [-33]), (1, 2, [-33]), (0, 0, [2, 30])):
            heated = (*line, ("heat", 0, v, 5), ("heat", 1, w, 5))
            self.assertEqual(last(*heated, ("mix", 0, 1)), answer)
            self.assertEqual(last(*heated, ("mix", 1, 0)), answer)

    def test_other_warmths_that_come_to_the_same(self):
        told = tell(
            ("begin", 0), ("warm", 998, 0), ("warm", 999, 0), ("batch", 0, FIVE), ("batch", 0, FIVE),
            ("heat", 0, 0, 9), ("heat", 1, 1, 3), ("mix", 0, 1), ("alive", 2),
        )
        self.assertEqual(told[-2:], [[2, 30], [0, MILLION]])

    def test_mixture_is_as_alive_and_green(self):
        told = tell(
            ("begin", 0), HALVES, ("batch", 0, FIVE), ("batch", 0, FIVE), ("heat", 0, 0, 2), ("heat", 1, 0, 2),
            ("mix", 0, 1), ("alive", 2), ("heat", 2, 0, 1), ("alive", 0), ("alive", 1),
        )
        self.assertEqual(told[-4:], [[250000, 980100], [125000, 970299], [250000, 980100], [250000, 980100]])

    def test_40_batches(self):
        told = tell(*THIRTY_NINE, ("mix", 11, 13), ("mix", 15, 17), ("alive", 40), ("mix", 11, 15), ("mix", 15, 15))
        self.assertEqual(told[-5:], [[39, 2], [-28], [-2], [-16], [-22]])

    def test_not_so_is_told_ahead_of_too_many(self):
        told = tell(
            THIRTY_NINE[0], ("warm", 5, 5), *THIRTY_NINE[1:], ("mix", 11, 13), ("heat", 15, 0, 1), ("mix", 15, 17),
        )
        self.assertEqual(told[-1], [-33])

    def test_which_is_told_first(self):
        self.assertEqual(last(*with_gone(("mix", 9, 9))), [-2])
        self.assertEqual(last(*with_gone(("mix", 0, 0))), [-22])
        self.assertEqual(last(*with_gone(("mix", 3, 3))), [-22])
        self.assertEqual(last(*with_gone(("mix", 0, 9))), [-2])
        self.assertEqual(last(*with_gone(("heat", 1, 0, 1), ("mix", 1, 3))), [-16])

    def test_one_first_batch_twice(self):
        told = tell(
            ("begin", 0), ("batch", 0, FIVE), ("sieve", 0, 2), ("mix", 2, 1), ("sieve", 3, 4), ("batch", 0, FIVE),
        )
        self.assertEqual(told[2:], [[1, 3, 12], [3, 15], [4, 10, 5], [6, 1]])
        batch = Batch(0, FIVE, 5, 6, [2])
        self.assertEqual(mixture_of(part_of(batch, FIVE), part_of(batch, FIVE)).roots, [2])

    def test_of_the_first_batches_of_both(self):
        one = Batch(0, FIVE, 5, 6, [3, 10])
        other = Batch(0, FIVE, 5, 6, [1, 3, 4])
        for mixture in (mixture_of(one, other), mixture_of(other, one)):
            self.assertEqual(mixture.roots, [1, 3, 4, 10])


class Heat(unittest.TestCase):
    LINE = (("begin", 0), HALVES, ("warm", 999, 999), ("warm", 1, 0), ("batch", 0, FIVE))

    def test_a_second(self):
        self.assertEqual(last(*self.LINE, ("heat", 0, 0, 1)), [500000, 990000])
        self.assertEqual(last(*self.LINE, ("heat", 0, 1, 1)), [1000, 1000])
        self.assertEqual(last(*self.LINE, ("heat", 0, 2, 1)), [999000, MILLION])

    def test_rounded_down_each_second(self):
        self.assertEqual(last(*self.LINE, ("heat", 0, 0, 7)), [7812, 932065])
        self.assertEqual(last(*self.LINE, ("heat", 0, 0, 8)), [3906, 922744])
        self.assertEqual(last(*self.LINE, ("heat", 0, 0, 19)), [1, 826162])

    def test_one_alive_and_a_second(self):
        for w in (0, 1, 2):
            line = (*self.LINE, ("heat", 0, 0, 19), ("heat", 0, w, 1))
            self.assertEqual(last(*line)[0], 0)

    def test_none_alive_stays_none(self):
        self.assertEqual(last(*self.LINE, ("heat", 0, 1, 3), ("heat", 0, 2, 600)), [0, 0])

    def test_fades_nothing(self):
        self.assertEqual(last(*self.LINE, ("heat", 0, 2, 600)), [548416, MILLION])

    def test_is_kept(self):
        told = tell(*self.LINE, ("heat", 0, 0, 1), ("heat", 0, 0, 1), ("alive", 0))
        self.assertEqual(told[-2:], [[250000, 980100], [250000, 980100]])

    def test_no_such(self):
        for b, w in ((1, 0), (0, 3), (1, 3), (MOST, 0), (0, MOST)):
            self.assertEqual(last(*self.LINE, ("heat", b, w, 1)), [-2])

    def test_seconds_are_1_to_600(self):
        for s in (0, 601, MOST):
            self.assertEqual(last(*self.LINE, ("heat", 0, 0, s)), [-22])
        self.assertEqual(last(*self.LINE, ("heat", 0, 0, 600))[0], 0)

    def test_gone_or_unwashed(self):
        self.assertEqual(last(*with_gone(("heat", 0, 0, 1))), [-16])
        self.assertEqual(last(*with_gone(("heat", 3, 0, 1))), [-16])

    def test_which_is_told_first(self):
        self.assertEqual(last(*with_gone(("heat", 9, 0, 0))), [-2])
        self.assertEqual(last(*with_gone(("heat", 0, 9, 601))), [-2])
        self.assertEqual(last(*with_gone(("heat", 0, 0, 0))), [-22])
        self.assertEqual(last(*with_gone(("heat", 3, 0, 601))), [-22])
        self.assertEqual(last(*with_gone(("heat", 0, 9, 1))), [-2])


class Enough(unittest.TestCase):
    def test_seconds_and_green(self):
        for limit, seconds, green in ((0, 20, 817900), (1, 19, 826162), (976, 10, 904380), (975, 11, 895336)):
            told = tell(("begin", limit), HALVES, ("batch", 0, FIVE), ("enough", 0, 0), ("alive", 0))
            self.assertEqual(told[3], [seconds, green])
            self.assertLessEqual(told[4][0], limit)
            self.assertEqual(told[4][1], green)

    def test_by_the_warmth_asked(self):
        line = (("begin", 0), HALVES, ("warm", 999, 1), ("batch", 0, FIVE), ("batch", 0, FIVE))
        self.assertEqual(tell(*line, ("enough", 1, 1), ("alive", 0), ("alive", 1))[-3:],
                         [[3, 997002], [MILLION, MILLION], [0, 997002]])

    def test_little_enough_now(self):
        told = tell(("begin", 1000), HALVES, ("warm", 999, 5), ("batch", 0, FIVE), ("enough", 0, 1), ("enough", 0, 0),
                    ("alive", 0))
        self.assertEqual(told[-3:], [[1, 995000], [0, 995000], [1000, 995000]])

    def test_six_hundred_just_enough(self):
        line = (("warm", 1, 0), ("batch", 0, FIVE), ("enough", 0, 0), ("alive", 0))
        self.assertEqual(tell(("begin", 548416), *line)[-2:], [[600, MILLION], [548416, MILLION]])

    def test_one_more_than_six_hundred(self):
        line = (("warm", 1, 0), ("batch", 0, FIVE), ("enough", 0, 0), ("alive", 0))
        for limit in (0, 547867, 548415):
            self.assertEqual(tell(("begin", limit), *line)[-2:], [[-33], [MILLION, MILLION]])

    def test_no_such(self):
        for b, w in ((9, 0), (1, 2), (9, 9), (0, 9), (3, MOST), (MOST, 0)):
            self.assertEqual(last(*with_gone(("enough", b, w))), [-2])

    def test_gone_or_unwashed(self):
        self.assertEqual(last(*with_gone(("enough", 0, 0))), [-16])
        self.assertEqual(last(*with_gone(("enough", 3, 0))), [-16])

    def test_gone_or_unwashed_is_told_ahead_of_never(self):
        line = (("begin", 0), ("warm", 1, 0), ("batch", 0, FIVE), ("batch", 4, FIVE), ("sieve", 0, 1))
        self.assertEqual(last(*line, ("enough", 0, 0)), [-16])
        self.assertEqual(last(*line, ("enough", 1, 0)), [-16])
        self.assertEqual(last(*line, ("enough", 2, 0)), [-33])


class Pack(unittest.TestCase):
    def test_kilograms_without_waste(self):
        told = tell(
            ("begin", 1000), ("warm", 999, 0), ("batch", 70, FIVE), ("wash", 0), ("heat", 0, 0, 1), ("pack", 0),
        )
        self.assertEqual(told[-1], [15])

    def test_no_such(self):
        self.assertEqual(last(("begin", 0), ("pack", 0)), [-2])
        self.assertEqual(last(*with_gone(("pack", 4))), [-2])
        self.assertEqual(last(*with_gone(("pack", MOST))), [-2])

    def test_gone(self):
        self.assertEqual(last(*with_gone(("pack", 0))), [-16])
        told = tell(*with_gone(("enough", 1, 1), ("pack", 1), ("pack", 1)))
        self.assertEqual(told[-2:], [[3], [-16]])

    def test_not_done(self):
        self.assertEqual(last(*with_gone(("pack", 3))), [-74])
        self.assertEqual(last(*with_gone(("pack", 1))), [-74])
        self.assertEqual(last(*with_gone(("wash", 3), ("pack", 3))), [-74])

    def test_just_the_limit_alive(self):
        line = (("warm", 999, 0), ("batch", 0, FIVE), ("heat", 0, 0, 1), ("pack", 0))
        self.assertEqual(last(("begin", 1000), *line), [15])
        self.assertEqual(last(("begin", 999), *line), [-74])

    def test_limit_of_0(self):
        line = (("begin", 0), ("warm", 999, 0), ("batch", 0, FIVE))
        self.assertEqual(last(*line, ("heat", 0, 0, 2), ("pack", 0)), [-74])
        self.assertEqual(last(*line, ("heat", 0, 0, 3), ("pack", 0)), [15])

    def test_packed_is_told_still(self):
        told = tell(*with_gone(("enough", 1, 0), ("pack", 1), ("alive", 1), ("heat", 1, 0, 1), ("alive", 1)))
        self.assertEqual(told[-3:], [[976, 904380], [-16], [976, 904380]])


if __name__ == "__main__":
    unittest.main()
