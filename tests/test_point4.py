"""Point 4: done, kg, sizes, mean, parts."""

import unittest

from blanched.kitchen import Batch, Kitchen, is_done
from line import MOST, last, tell

FIVE = [1, 2, 3, 4, 5]
HALVES = ("warm", 500, 10)
NAMES = ("done", "kg", "sizes", "mean")


def all_of(b):
    """All that point 4 tells of a batch."""
    return (*[(name, b) for name in NAMES], *[("parts", b, m) for m in (1, 2, 3, 4)])


class NoSuch(unittest.TestCase):
    def test_no_batch_at_all(self):
        for call in all_of(0):
            self.assertEqual(last(("begin", 0), HALVES, call), [-2], call)

    def test_one_more_than_there_is(self):
        for b in (2, 40, MOST):
            for call in all_of(b):
                self.assertEqual(last(("begin", 0), ("batch", 0, FIVE), ("batch", 3, FIVE), call), [-2], call)

    def test_begin_again(self):
        for call in all_of(0):
            told = tell(("begin", 0), ("batch", 0, FIVE), call, ("begin", 0), call)
            self.assertNotEqual(told[2], [-2])
            self.assertEqual(told[4], [-2])


class Done(unittest.TestCase):
    def test_washed_and_little_enough(self):
        told = tell(
            ("begin", 1000), ("warm", 999, 0), ("batch", 3, FIVE), ("done", 0), ("wash", 0), ("done", 0),
            ("heat", 0, 0, 1), ("done", 0),
        )
        self.assertEqual((told[3], told[5], told[7]), ([0], [0], [1]))

    def test_just_the_limit_alive(self):
        line = (("warm", 999, 0), ("batch", 0, FIVE), ("heat", 0, 0, 1), ("done", 0))
        for limit, done in ((999, 0), (1000, 1), (1001, 1)):
            self.assertEqual(last(("begin", limit), *line), [done])

    def test_limit_of_0(self):
        line = (("begin", 0), ("warm", 999, 0), ("batch", 0, FIVE), ("done", 0))
        told = tell(*line, *[("heat", 0, 0, 1), ("done", 0)] * 4)
        self.assertEqual(told[3::2], [[0], [0], [0], [1], [1]])

    def test_limit_of_999999(self):
        line = (("begin", 999999), ("warm", 1, 0), ("batch", 0, FIVE), ("done", 0), ("heat", 0, 0, 1), ("done", 0))
        self.assertEqual(tell(*line)[3::2], [[0], [1]])

    def test_is_what_pack_asks(self):
        for limit in (0, 1, 975, 976, 999999):
            for seconds in (1, 10, 19, 20):
                line = (("begin", limit), HALVES, ("batch", 0, FIVE), ("heat", 0, 0, seconds))
                done = last(*line, ("done", 0))
                self.assertEqual(last(*line, ("pack", 0)), [15] if done == [1] else [-74])

    def test_waste_alone(self):
        # No line comes to it: what has waste is not heated, and a million is never little enough.
        kitchen = Kitchen()
        kitchen.make_empty(5)
        self.assertFalse(is_done(kitchen, Batch(1, FIVE, 0, 0, [0])))
        self.assertFalse(is_done(kitchen, Batch(10000, FIVE, 5, 0, [0])))
        self.assertTrue(is_done(kitchen, Batch(0, FIVE, 5, 0, [0])))

    def test_of_the_batch_asked(self):
        told = tell(
            ("begin", 1000), HALVES, ("batch", 0, FIVE), ("batch", 0, FIVE), ("enough", 1, 0), ("done", 0), ("done", 1),
        )
        self.assertEqual(told[-2:], [[0], [1]])


class Kg(unittest.TestCase):
    def test_kilograms_then_waste(self):
        told = tell(
            ("begin", 0), ("batch", 70, FIVE), ("batch", 0, [10000] * 5), ("batch", 10000, [0, 0, 0, 0, 1]),
            ("kg", 0), ("kg", 1), ("kg", 2),
        )
        self.assertEqual(told[-3:], [[15, 70], [50000, 0], [1, 10000]])

    def test_washed_sieved_mixed_heated(self):
        told = tell(
            ("begin", 0), HALVES, ("batch", 7, FIVE), ("wash", 0), ("kg", 0), ("heat", 0, 0, 600), ("kg", 0),
            ("sieve", 0, 3), ("kg", 1), ("kg", 2), ("mix", 1, 2), ("kg", 3),
        )
        self.assertEqual([told[k] for k in (4, 6, 8, 9, 11)], [[15, 0], [15, 0], [6, 0], [9, 0], [15, 0]])


class Sizes(unittest.TestCase):
    def test_five_then_each(self):
        told = tell(("begin", 0), ("batch", 9, [0, 10000, 7, 0, 1]), ("batch", 0, FIVE), ("sizes", 0), ("sizes", 1))
        self.assertEqual(told[-2:], [[5, 0, 10000, 7, 0, 1], [5, 1, 2, 3, 4, 5]])

    def test_each_mesh(self):
        for m in (1, 2, 3, 4):
            told = tell(("begin", 0), ("batch", 0, FIVE), ("sieve", 0, m), ("sizes", 1), ("sizes", 2))
            self.assertEqual(told[-2], [5] + FIVE[:m] + [0] * (5 - m))
            self.assertEqual(told[-1], [5] + [0] * m + FIVE[m:])

    def test_mixed(self):
        told = tell(("begin", 0), ("batch", 0, FIVE), ("batch", 0, [10, 0, 0, 100, 10000]), ("mix", 1, 0), ("sizes", 2))
        self.assertEqual(told[-1], [5, 11, 2, 3, 104, 10005])

    def test_a_mixture_heavier_than_any_first_batch(self):
        heavy = [("batch", 0, [10000] * 5)] * 3
        told = tell(("begin", 0), *heavy, ("mix", 0, 1), ("mix", 2, 3), ("sizes", 4), ("kg", 4))
        self.assertEqual(told[-3:], [[4, 150000], [5] + [30000] * 5, [150000, 0]])


class Mean(unittest.TestCase):
    def test_rounded_down(self):
        found = (
            (FIVE, 2666), ([1, 1, 0, 0, 0], 500), ([2, 1, 0, 0, 0], 333), ([1, 2, 0, 0, 0], 666),
            ([0, 0, 0, 1, 2], 3666), ([10000, 0, 0, 0, 1], 0), ([1, 0, 0, 0, 10000], 3999), ([10000] * 5, 2000),
            ([0, 0, 5, 0, 1], 2333), ([999, 1, 0, 0, 0], 1), ([1000, 1, 0, 0, 0], 0),
        )
        for sizes, mean in found:
            self.assertEqual(last(("begin", 0), ("batch", 0, sizes), ("mean", 0)), [mean], sizes)

    def test_all_of_one_size(self):
        for size in range(5):
            for weight in (1, 3, 10000):
                sizes = [weight if k == size else 0 for k in range(5)]
                self.assertEqual(last(("begin", 0), ("batch", 0, sizes), ("mean", 0)), [size * 1000])

    def test_waste_does_not_count(self):
        told = tell(("begin", 0), ("batch", 10000, FIVE), ("mean", 0), ("wash", 0), ("mean", 0))
        self.assertEqual((told[2], told[4]), ([2666], [2666]))

    def test_sieved_and_mixed(self):
        told = tell(
            ("begin", 0), ("batch", 0, FIVE), ("sieve", 0, 2), ("mean", 1), ("mean", 2), ("mix", 1, 2), ("mean", 3),
        )
        self.assertEqual((told[3], told[4], told[6]), ([666], [3166], [2666]))


class Parts(unittest.TestCase):
    def test_each_mesh(self):
        for m, told in ((1, [1, 14, 66]), (2, [3, 12, 200]), (3, [6, 9, 400]), (4, [10, 5, 666])):
            self.assertEqual(last(("begin", 0), ("batch", 0, FIVE), ("parts", 0, m)), told)

    def test_mesh_is_1_to_4(self):
        for m in (0, 5, 6, MOST):
            self.assertEqual(last(("begin", 0), ("batch", 0, FIVE), ("parts", 0, m)), [-22])

    def test_no_such_is_told_ahead_of_out_of_range(self):
        for m in (0, 5, MOST):
            self.assertEqual(last(("begin", 0), ("batch", 0, FIVE), ("parts", 1, m)), [-2])

    def test_nothing_through_or_nothing_stays(self):
        for size in range(5):
            sizes = [3 if k == size else 0 for k in range(5)]
            for m in (1, 2, 3, 4):
                told = last(("begin", 0), ("batch", 0, sizes), ("parts", 0, m))
                self.assertEqual(told, [3, 0, 1000] if size < m else [0, 3, 0])

    def test_rounded_down(self):
        found = (
            ([1, 10000, 10000, 10000, 10000], 1, [1, 40000, 0]), ([10000, 0, 0, 0, 1], 4, [10000, 1, 999]),
            ([1, 999, 0, 0, 0], 1, [1, 999, 1]), ([1, 1000, 0, 0, 0], 1, [1, 1000, 0]),
            ([0, 2, 0, 1, 0], 3, [2, 1, 666]),
        )
        for sizes, m, told in found:
            self.assertEqual(last(("begin", 0), ("batch", 0, sizes), ("parts", 0, m)), told)

    def test_waste_does_not_count(self):
        told = tell(("begin", 0), ("batch", 10000, FIVE), ("parts", 0, 3), ("wash", 0), ("parts", 0, 3))
        self.assertEqual((told[2], told[4]), ([6, 9, 400], [6, 9, 400]))

    def test_is_what_sieve_does(self):
        line = (("begin", 0), ("batch", 0, [0, 30, 7, 0, 9]))
        for m in (1, 2, 3, 4):
            told = tell(*line, ("parts", 0, m), ("sieve", 0, m))
            if 0 in told[2][:2]:
                self.assertEqual(told[3], [-33])
            else:
                self.assertEqual(told[3], [1] + told[2][:2])


class Gone(unittest.TestCase):
    def as_it_was(self, line, call, b):
        """Batch b is told behind the call that takes it away as ahead of it."""
        told = tell(*line, *all_of(b), call, *all_of(b))
        before = told[len(line):len(line) + 8]
        self.assertGreaterEqual(told[len(line) + 8][0], 0)
        self.assertEqual(told[-8:], before)
        return before

    def test_sieved(self):
        line = (("begin", 1000), HALVES, ("batch", 4, FIVE), ("wash", 0), ("heat", 0, 0, 10))
        before = self.as_it_was(line, ("sieve", 0, 2), 0)
        self.assertEqual(before[:5], [[1], [15, 0], [5] + FIVE, [2666], [1, 14, 66]])

    def test_mixed(self):
        line = (("begin", 0), HALVES, ("batch", 0, FIVE), ("batch", 0, [7, 0, 0, 0, 1]))
        for b in (0, 1):
            for call in (("mix", 0, 1), ("mix", 1, 0)):
                self.assertEqual(self.as_it_was(line, call, b)[0], [0])

    def test_packed(self):
        line = (("begin", 976), HALVES, ("batch", 9, FIVE), ("wash", 0), ("enough", 0, 0))
        self.assertEqual(self.as_it_was(line, ("pack", 0), 0)[:2], [[1], [15, 0]])

    def test_what_comes_of_it_is_heated_alone(self):
        told = tell(
            ("begin", 1000), HALVES, ("batch", 0, FIVE), ("sieve", 0, 2), ("enough", 1, 0), ("pack", 1), ("done", 0),
            ("done", 1), ("done", 2), ("sizes", 0),
        )
        self.assertEqual(told[-4:], [[0], [1], [0], [5] + FIVE])

    def test_which_is_told_first(self):
        line = (("begin", 0), ("batch", 0, FIVE), ("sieve", 0, 2))
        self.assertEqual(last(*line, ("parts", 0, 0)), [-22])
        self.assertEqual(last(*line, ("parts", 3, 0)), [-2])


if __name__ == "__main__":
    unittest.main()
