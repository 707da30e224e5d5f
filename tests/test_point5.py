"""Point 5: live, of, roots, raw, sums, state."""

import unittest

from line import MILLION, MOST, last, tell

FIVE = [1, 2, 3, 4, 5]
HALVES = ("warm", 500, 10)
ALL = (("live",), ("raw",), ("sums",), ("state",))


class BegunJustNow(unittest.TestCase):
    def test_there_is_nothing(self):
        for limit in (0, 999999):
            told = tell(("begin", limit), *ALL, ("of", 0), ("roots", 0))
            self.assertEqual(told[1:], [[0], [0], [0, 0, 0, 0, 0], [0, limit, 0, 0, 0], [-2], [-2]])

    def test_begin_again(self):
        line = (
            ("begin", 1000), HALVES, ("batch", 7, FIVE), ("wash", 0), ("enough", 0, 0), ("pack", 0), ("batch", 3, FIVE),
            ("batch", 0, FIVE), ("sieve", 2, 2),
        )
        told = tell(*line, *ALL, ("begin", 5), *ALL, ("of", 0), ("roots", 0))
        self.assertEqual(told[9:13], [[3, 1, 3, 4], [3, 1, 3, 4], [0, 55, 7, 33, 15], [0, 1000, 1, 5, 3]])
        self.assertEqual(told[14:], [[0], [0], [0, 0, 0, 0, 0], [0, 5, 0, 0, 0], [-2], [-2]])

    def test_counted_anew(self):
        line = (("batch", 7, FIVE), ("wash", 0), ("sums",), ("state",), ("live",), ("of", 0), ("of", 1), ("roots", 0))
        told = tell(("begin", 1), ("batch", 9, FIVE), *line, ("begin", 1), *line)
        self.assertEqual(told[4], [0, 46, 9, 37, 0])
        self.assertEqual(told[11:], [[0, 0], [7], [0, 22, 7, 15, 0], [0, 1, 0, 1, 1], [1, 0], [1, 0], [-2], [1, 0]])

    def test_a_refused_begin_leaves_all(self):
        line = (("begin", 3), HALVES, ("batch", 7, FIVE), ("wash", 0))
        looks = (*ALL, ("of", 0), ("roots", 0))
        self.assertEqual(tell(*line, ("begin", MILLION), *looks)[5:], tell(*line, *looks)[4:])


class Live(unittest.TestCase):
    def test_rising(self):
        told = tell(
            ("begin", 1000), HALVES, *[("batch", k, FIVE) for k in range(4)], ("live",), ("sieve", 0, 2), ("live",),
            ("mix", 5, 4), ("live",), ("enough", 6, 0), ("live",), ("pack", 6), ("live",),
        )
        self.assertEqual(
            told[6::2], [[4, 0, 1, 2, 3], [5, 1, 2, 3, 4, 5], [4, 1, 2, 3, 6], [4, 1, 2, 3, 6], [3, 1, 2, 3]],
        )

    def test_none_left(self):
        told = tell(("begin", 1000), HALVES, ("batch", 0, FIVE), ("enough", 0, 0), ("pack", 0), ("live",))
        self.assertEqual(told[-1], [0])

    def test_unwashed_is_there(self):
        self.assertEqual(last(("begin", 0), ("batch", 10000, FIVE), ("live",)), [1, 0])

    def test_40_batches(self):
        line = (("begin", 0), *[("batch", 0, [1] * 5)] * 12, *[("sieve", b, 1) for b in range(12)])
        told = tell(*line, ("sieve", 13, 2), ("sieve", 15, 2), ("live",), ("raw",), ("state",))
        there = [12, 14] + list(range(16, 40))
        self.assertEqual(told[-3:], [[26] + there, [26] + there, [0, 0, 0, 40, 12]])


class OfAndRoots(unittest.TestCase):
    def test_a_first_batch(self):
        told = tell(
            ("begin", 0), ("batch", 0, FIVE), ("batch", 6, FIVE), ("of", 0), ("of", 1), ("roots", 0), ("roots", 1),
        )
        self.assertEqual(told[-4:], [[1, 0], [1, 1], [1, 0], [1, 1]])

    def test_a_first_batch_that_came_late(self):
        # Its number among all is 3, among the first ones 1.
        told = tell(
            ("begin", 0), ("batch", 0, FIVE), ("sieve", 0, 1), ("batch", 0, FIVE), ("roots", 3), ("of", 1), ("of", 0),
            ("of", 2), ("of", 3), ("roots", 4),
        )
        self.assertEqual(told[-6:], [[1, 1], [1, 3], [2, 1, 2], [-2], [-2], [-2]])

    def test_sieved(self):
        told = tell(
            ("begin", 0), ("batch", 0, FIVE), ("batch", 0, FIVE), ("sieve", 1, 3), ("sieve", 2, 1),
            ("roots", 1), ("roots", 2), ("roots", 3), ("roots", 4), ("roots", 5), ("of", 1), ("of", 0),
        )
        self.assertEqual(told[-7:], [[1, 1], [1, 1], [1, 1], [1, 1], [1, 1], [3, 3, 4, 5], [1, 0]])

    def test_mixed(self):
        for mix in (("mix", 0, 2), ("mix", 2, 0)):
            told = tell(
                ("begin", 0), *[("batch", 0, FIVE)] * 3, mix,
                ("roots", 3), ("of", 0), ("of", 1), ("of", 2), ("roots", 0),
            )
            self.assertEqual(told[-5:], [[2, 0, 2], [1, 3], [1, 1], [1, 3], [1, 0]])

    def test_one_first_batch_twice(self):
        told = tell(
            ("begin", 0), ("batch", 0, FIVE), ("sieve", 0, 2), ("mix", 2, 1), ("roots", 3), ("of", 0), ("sizes", 3),
        )
        self.assertEqual(told[-3:], [[1, 0], [1, 3], [5] + FIVE])

    def test_rising_and_each_once(self):
        # 0 and 2 are mixed to 3 and sieved to 4 and 5; 1 and 4 to 6; 6 and 5 to 7: of 0 and of 2 twice.
        line = (("begin", 0), *[("batch", 0, FIVE)] * 3, ("mix", 2, 0), ("sieve", 3, 2), ("mix", 1, 4))
        told = tell(*line, ("roots", 6), ("of", 0), ("of", 1), ("of", 2))
        self.assertEqual(told[7:], [[3, 0, 1, 2], [2, 5, 6], [1, 6], [2, 5, 6]])
        told = tell(*line, ("mix", 6, 5), ("roots", 7), *[("of", r) for r in range(4)])
        self.assertEqual(told[7:], [[7, 45], [3, 0, 1, 2], [1, 7], [1, 7], [1, 7], [-2]])

    def test_all_twelve_in_one(self):
        line = [("begin", 0), *[("batch", 0, FIVE)] * 12, ("mix", 11, 10)]
        line.extend([("mix", 12 + k, 9 - k) for k in range(10)])
        told = tell(*line, ("roots", 22), ("roots", 12), ("of", 11), ("of", 0), ("of", 12), ("sizes", 22))
        self.assertEqual(
            told[-6:], [[12] + list(range(12)), [2, 10, 11], [1, 22], [1, 22], [-2], [5, 12, 24, 36, 48, 60]],
        )

    def test_a_part_keeps_its_own_roots(self):
        told = tell(
            ("begin", 0), ("batch", 0, FIVE), ("batch", 0, FIVE), ("sieve", 0, 2), ("mix", 2, 1), ("roots", 0),
            ("roots", 2), ("roots", 3), ("roots", 4),
        )
        self.assertEqual(told[-4:], [[1, 0], [1, 0], [1, 0], [2, 0, 1]])

    def test_gone_is_told_by_roots_and_left_out_by_of(self):
        told = tell(
            ("begin", 1000), HALVES, *[("batch", 0, FIVE)] * 3, ("sieve", 0, 1), ("mix", 1, 2), ("enough", 3, 0),
            ("pack", 3), *[("roots", b) for b in range(6)], *[("of", r) for r in range(3)],
        )
        self.assertEqual(told[-9:-3], [[1, 0], [1, 1], [1, 2], [1, 0], [1, 0], [2, 1, 2]])
        self.assertEqual(told[-3:], [[1, 4], [1, 5], [1, 5]])

    def test_none_of_it_is_left(self):
        told = tell(
            ("begin", 1000), HALVES, ("batch", 0, FIVE), ("batch", 0, FIVE), ("mix", 0, 1), ("enough", 2, 0),
            ("pack", 2), ("of", 0), ("of", 1), ("roots", 2),
        )
        self.assertEqual(told[-3:], [[0], [0], [2, 0, 1]])

    def test_no_such(self):
        line = (("begin", 0), HALVES, ("batch", 0, FIVE), ("sieve", 0, 1))
        for r in (1, 2, 12, MOST):
            self.assertEqual(last(*line, ("of", r)), [-2])
        for b in (3, 40, MOST):
            self.assertEqual(last(*line, ("roots", b)), [-2])


class Raw(unittest.TestCase):
    def test_more_is_alive_than_little_enough(self):
        told = tell(
            ("begin", 1000), HALVES, *[("batch", 0, FIVE)] * 3, ("raw",), ("heat", 1, 0, 9), ("raw",),
            ("heat", 1, 0, 1), ("raw",), ("enough", 0, 0), ("raw",), ("enough", 2, 0), ("raw",),
        )
        self.assertEqual(told[5::2], [[3, 0, 1, 2], [3, 0, 1, 2], [2, 0, 2], [1, 2], [0]])

    def test_just_the_limit_alive(self):
        line = (("warm", 999, 0), ("batch", 0, FIVE), ("heat", 0, 0, 1), ("raw",))
        for limit, raw in ((999, [1, 0]), (1000, [0]), (1001, [0])):
            self.assertEqual(last(("begin", limit), *line), raw)

    def test_limit_of_0(self):
        told = tell(("begin", 0), ("warm", 999, 0), ("batch", 0, FIVE), ("raw",), *[("heat", 0, 0, 1), ("raw",)] * 3)
        self.assertEqual(told[3::2], [[1, 0], [1, 0], [1, 0], [0]])

    def test_limit_of_999999(self):
        told = tell(("begin", 999999), ("warm", 1, 0), ("batch", 0, FIVE), ("raw",), ("heat", 0, 0, 1), ("raw",))
        self.assertEqual(told[3::2], [[1, 0], [0]])

    def test_unwashed_is_raw(self):
        self.assertEqual(last(("begin", 999999), ("batch", 5, FIVE), ("raw",)), [1, 0])

    def test_gone_is_left_out(self):
        told = tell(
            ("begin", 1000), HALVES, *[("batch", 0, FIVE)] * 4, ("sieve", 0, 2), ("raw",), ("mix", 1, 2), ("raw",),
            ("enough", 6, 0), ("pack", 6), ("raw",),
        )
        self.assertEqual((told[7], told[9], told[12]), ([5, 1, 2, 3, 4, 5], [4, 3, 4, 5, 6], [3, 3, 4, 5]))


class Sums(unittest.TestCase):
    def test_behind_every_call_that_changes_something(self):
        line = (
            (("begin", 1000), [0, 0, 0, 0]), (("warm", 500, 10), [0, 0, 0, 0]),
            (("batch", 7, FIVE), [22, 0, 22, 0]), (("batch", 0, [10] * 5), [72, 0, 72, 0]),
            (("batch", 100, [1, 0, 0, 0, 0]), [173, 0, 173, 0]), (("wash", 0), [173, 7, 166, 0]),
            (("sieve", 0, 2), [173, 7, 166, 0]), (("mix", 3, 1), [173, 7, 166, 0]),
            (("heat", 5, 0, 3), [173, 7, 166, 0]), (("enough", 5, 0), [173, 7, 166, 0]),
            (("pack", 5), [173, 7, 113, 53]), (("wash", 2), [173, 107, 13, 53]),
            (("enough", 2, 0), [173, 107, 13, 53]), (("pack", 2), [173, 107, 12, 54]),
            (("enough", 4, 0), [173, 107, 12, 54]), (("pack", 4), [173, 107, 0, 66]),
            (("batch", 1, FIVE), [189, 107, 16, 66]),
        )
        calls = []
        for call, sums in line:
            calls.extend([call, ("sums",)])
        told = tell(*calls)
        self.assertTrue(all(part[0] >= 0 for part in told[0::2]), told)
        self.assertEqual(told[1::2], [[0] + sums for call, sums in line])

    def test_waste_of_a_batch_that_is_packed(self):
        told = tell(
            ("begin", 1000), HALVES, ("batch", 70, FIVE), ("wash", 0), ("enough", 0, 0), ("pack", 0), ("sums",),
            ("kg", 0),
        )
        self.assertEqual(told[-2:], [[0, 85, 70, 0, 15], [15, 0]])

    def test_the_most_there_can_be(self):
        firsts = [("batch", 10000, [10000] * 5)] * 13
        self.assertEqual(last(("begin", 0), *firsts, ("sums",)), [0, 720000, 0, 720000, 0])
        washed = [("wash", b) for b in range(12)]
        self.assertEqual(last(("begin", 0), *firsts, *washed, ("sums",)), [0, 720000, 120000, 600000, 0])

    def test_refused_calls_do_not_count(self):
        line = (("begin", 0), HALVES, ("batch", 7, FIVE), ("batch", 0, FIVE))
        refused = (
            ("batch", 5, [0] * 5), ("batch", 10001, FIVE), ("batch", 5, FIVE[:4]), ("wash", 1), ("wash", 2),
            ("pack", 0), ("pack", 1), ("sieve", 0, 1), ("mix", 0, 1), ("begin", MILLION),
        )
        for call in refused:
            told = tell(*line, call, ("sums",))
            self.assertLess(told[-2][0], 0)
            self.assertEqual(told[-1], [0, 37, 0, 37, 0], call)

    def test_packed_or_washed_twice_counts_once(self):
        told = tell(
            ("begin", 1000), HALVES, ("batch", 7, FIVE), ("wash", 0), ("wash", 0), ("enough", 0, 0), ("pack", 0),
            ("pack", 0), ("wash", 0), ("sums",),
        )
        self.assertEqual(told[-3:], [[-16], [-16], [0, 22, 7, 0, 15]])


class State(unittest.TestCase):
    def test_limit_warmths_batches_firsts(self):
        told = tell(
            ("begin", 77), ("warm", 5, 5), ("warm", 6, 6), ("state",), ("batch", 7, FIVE), ("batch", 0, FIVE),
            ("state",), ("sieve", 1, 2), ("state",), ("mix", 2, 3), ("state",), ("batch", 0, FIVE), ("state",),
        )
        self.assertEqual(
            [told[k] for k in (3, 6, 8, 10, 12)],
            [[0, 77, 2, 0, 0], [0, 77, 2, 2, 2], [0, 77, 2, 4, 2], [0, 77, 2, 5, 2], [0, 77, 2, 6, 3]],
        )

    def test_gone_ones_have_been(self):
        told = tell(("begin", 1000), HALVES, ("batch", 0, FIVE), ("enough", 0, 0), ("pack", 0), ("state",))
        self.assertEqual(told[-1], [0, 1000, 1, 1, 1])

    def test_the_most_there_can_be(self):
        told = tell(("begin", 999999), *[("warm", 9, 9)] * 6, *[("batch", 0, FIVE)] * 13, ("state",))
        self.assertEqual(told[-1], [0, 999999, 5, 12, 12])

    def test_refused_calls_do_not_count(self):
        line = (("begin", 4), HALVES, ("batch", 7, FIVE), ("batch", 0, [1, 0, 0, 0, 0]))
        refused = (
            ("warm", 0, 0), ("batch", 0, []), ("sieve", 0, 2), ("sieve", 1, 1), ("mix", 0, 1), ("mix", 1, 1),
            ("begin", MILLION), ("begin", MOST),
        )
        for call in refused:
            told = tell(*line, call, ("state",))
            self.assertLess(told[-2][0], 0)
            self.assertEqual(told[-1], [0, 4, 1, 2, 2], call)


if __name__ == "__main__":
    unittest.main()
