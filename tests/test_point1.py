"""Point 1: begin, warm, batch, wash."""

import unittest

from line import MILLION, MOST, last, tell

FIVE = [1, 2, 3, 4, 5]


class Begin(unittest.TestCase):
    def test_answers_0(self):
        for limit in (0, 1, 500, 999999):
            self.assertEqual(tell(("begin", limit)), [[0]])

    def test_limit_of_a_million_or_more_is_refused(self):
        for limit in (1000000, 1000001, MOST):
            self.assertEqual(tell(("begin", limit)), [[-22]])

    def test_limit_is_the_one_told(self):
        for limit in (0, 1, 999, 1000, 1001):
            enough = 1 if 1000 <= limit else 0
            self.assertEqual(
                last(("begin", limit), ("warm", 999, 0), ("batch", 0, FIVE), ("would", 0, 0, 1)),
                [1000, MILLION, enough],
            )

    def test_begin_again_clears_all(self):
        told = tell(
            ("begin", 7), ("warm", 500, 1), ("batch", 3, FIVE), ("begin", 999999),
            ("alive", 0), ("warm", 1, 0), ("need", 0, 0), ("batch", 0, FIVE), ("need", 0, 0), ("alive", 1),
        )
        self.assertEqual(told[3:], [[0], [-2], [0], [-2], [0, 0], [1], [-2]])

    def test_begin_again_gives_room_again(self):
        firsts = [("batch", 0, FIVE)] * 12
        warmths = [("warm", 5, 5)] * 5
        told = tell(("begin", 0), *firsts, *warmths, ("begin", 0), *firsts, *warmths)
        self.assertEqual(told[1:18], told[19:])
        self.assertEqual(told[30], [11, 11])
        self.assertEqual(told[35], [4])

    def test_refused_begin_leaves_all(self):
        told = tell(
            ("begin", 1000), ("warm", 999, 1), ("batch", 3, FIVE), ("begin", 1000000),
            ("alive", 0), ("need", 0, 0), ("batch", 0, FIVE), ("warm", 1, 1),
        )
        self.assertEqual(told[3:], [[-22], [MILLION, MILLION], [1], [1, 1], [1]])


class Warm(unittest.TestCase):
    def test_numbers_from_0(self):
        told = tell(("begin", 0), ("warm", 1, 0), ("warm", 999, 999), ("warm", 500, 500))
        self.assertEqual(told, [[0], [0], [1], [2]])

    def test_out_of_range(self):
        for kills, fades in ((0, 0), (0, 5), (1000, 0), (MOST, 0), (1, 1000), (999, MOST), (0, 1000)):
            self.assertEqual(last(("begin", 0), ("warm", kills, fades)), [-22])

    def test_five_and_a_sixth(self):
        told = tell(("begin", 0), *[("warm", 7, 7)] * 6)
        self.assertEqual(told[1:], [[0], [1], [2], [3], [4], [-28]])

    def test_out_of_range_is_told_ahead_of_too_many(self):
        full = (("begin", 0), *[("warm", 7, 7)] * 5)
        self.assertEqual(last(*full, ("warm", 0, 0)), [-22])
        self.assertEqual(last(*full, ("warm", 1, 1000)), [-22])

    def test_refused_warm_takes_no_number(self):
        told = tell(("begin", 0), ("warm", 0, 0), ("warm", 1, 1000), ("warm", 1, 1))
        self.assertEqual(told[1:], [[-22], [-22], [0]])

    def test_kills_and_fades_are_kept_apart(self):
        told = tell(("begin", 0), ("warm", 100, 300), ("batch", 0, FIVE), ("would", 0, 0, 1))
        self.assertEqual(told[3], [900000, 700000, 0])


class BatchCall(unittest.TestCase):
    def test_number_and_how_manieth(self):
        told = tell(("begin", 0), ("batch", 0, FIVE), ("batch", 10000, [0, 0, 0, 0, 1]))
        self.assertEqual(told[1:], [[0, 0], [1, 1]])

    def test_number_and_how_manieth_differ_behind_a_sieve(self):
        told = tell(("begin", 0), ("batch", 0, FIVE), ("sieve", 0, 2), ("batch", 0, FIVE))
        self.assertEqual(told[3], [3, 1])

    def test_a_million_alive_and_green(self):
        self.assertEqual(last(("begin", 0), ("batch", 9, FIVE), ("alive", 0)), [MILLION, MILLION])

    def test_not_five_sizes(self):
        for many in (0, 1, 4, 6, 100):
            self.assertEqual(last(("begin", 0), ("batch", 0, [1] * many)), [-22])

    def test_a_size_at_most_10000(self):
        for k in range(5):
            sizes = [0] * 5
            for much, answer in ((10000, [0, 0]), (10001, [-22]), (65535, [-22])):
                sizes[k] = much
                self.assertEqual(last(("begin", 0), ("batch", 0, list(sizes))), answer)
        self.assertEqual(last(("begin", 0), ("batch", 0, [10000] * 5)), [0, 0])

    def test_all_0(self):
        self.assertEqual(last(("begin", 0), ("batch", 0, [0] * 5)), [-22])
        self.assertEqual(last(("begin", 0), ("batch", 5, [0] * 5)), [-22])

    def test_waste_at_most_10000(self):
        for waste, answer in ((0, [0, 0]), (10000, [0, 0]), (10001, [-22]), (MOST, [-22])):
            self.assertEqual(last(("begin", 0), ("batch", waste, FIVE)), answer)

    def test_refused_batch_takes_no_number(self):
        told = tell(("begin", 0), ("batch", 0, []), ("batch", 10001, FIVE), ("batch", 0, FIVE))
        self.assertEqual(told[1:], [[-22], [-22], [0, 0]])

    def test_twelve_first_ones_and_a_thirteenth(self):
        told = tell(("begin", 0), *[("batch", 0, FIVE)] * 13)
        self.assertEqual(told[1:], [[k, k] for k in range(12)] + [[-28]])

    def test_gone_first_ones_give_no_room(self):
        told = tell(
            ("begin", 0), ("warm", 999, 0), *[("batch", 0, FIVE)] * 12,
            ("enough", 0, 0), ("pack", 0), ("batch", 0, FIVE),
        )
        self.assertEqual(told[-2:], [[15], [-28]])

    def test_forty_in_all(self):
        # 10 first ones and 15 sieved are 40, with two first ones still free.
        firsts = [("batch", 0, [1] * 5)] * 10
        sieved = [("sieve", b, 1) for b in range(10)] + [("sieve", 11 + 2 * k, 2) for k in range(5)]
        told = tell(("begin", 0), *firsts, *sieved, ("batch", 0, FIVE), ("batch", 0, []))
        self.assertEqual(told[25], [38, 1, 3])
        self.assertEqual(told[26:], [[-28], [-22]])

    def test_the_fortieth(self):
        # 11 first ones and 14 sieved are 39.
        firsts = [("batch", 0, [1] * 5)] * 11
        sieved = [("sieve", b, 1) for b in range(11)] + [("sieve", 12 + 2 * k, 2) for k in range(3)]
        told = tell(("begin", 0), *firsts, *sieved, ("batch", 0, FIVE))
        self.assertEqual(told[-1], [39, 11])

    def test_out_of_range_is_told_ahead_of_too_many(self):
        full = (("begin", 0), *[("batch", 0, FIVE)] * 12)
        for waste, sizes in ((0, []), (0, [0] * 5), (10001, FIVE), (0, [10001, 0, 0, 0, 0])):
            self.assertEqual(last(*full, ("batch", waste, sizes)), [-22])


class Wash(unittest.TestCase):
    def test_how_much_it_was(self):
        told = tell(("begin", 0), ("batch", 1, FIVE), ("batch", 10000, FIVE), ("wash", 1), ("wash", 0))
        self.assertEqual(told[3:], [[10000], [1]])

    def test_no_such(self):
        self.assertEqual(last(("begin", 0), ("wash", 0)), [-2])
        self.assertEqual(last(("begin", 0), ("batch", 1, FIVE), ("wash", 1)), [-2])
        self.assertEqual(last(("begin", 0), ("batch", 1, FIVE), ("wash", MOST)), [-2])

    def test_no_waste(self):
        self.assertEqual(last(("begin", 0), ("batch", 0, FIVE), ("wash", 0)), [-17])

    def test_washed_twice(self):
        told = tell(("begin", 0), ("batch", 8, FIVE), ("wash", 0), ("wash", 0))
        self.assertEqual(told[2:], [[8], [-17]])

    def test_washed_is_usable(self):
        told = tell(("begin", 0), ("batch", 8, FIVE), ("sieve", 0, 1), ("wash", 0), ("sieve", 0, 1))
        self.assertEqual(told[2:], [[-16], [8], [1, 1, 14]])

    def test_gone_is_told_ahead_of_no_waste(self):
        self.assertEqual(last(("begin", 0), ("batch", 0, FIVE), ("sieve", 0, 1), ("wash", 0)), [-16])

    def test_waste_of_a_packed_batch(self):
        told = tell(
            ("begin", 1000), ("warm", 999, 0), ("batch", 6, FIVE), ("pack", 0), ("wash", 0),
            ("enough", 0, 0), ("pack", 0), ("wash", 0),
        )
        self.assertEqual(told[3:], [[-74], [6], [1, MILLION], [15], [-16]])

    def test_parts_and_mixtures_have_no_waste(self):
        told = tell(
            ("begin", 0), ("batch", 8, FIVE), ("wash", 0), ("sieve", 0, 1), ("wash", 1), ("wash", 2),
            ("mix", 1, 2), ("wash", 3),
        )
        self.assertEqual(told[4:], [[-17], [-17], [3, 15], [-17]])


if __name__ == "__main__":
    unittest.main()
