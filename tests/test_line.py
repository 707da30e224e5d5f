"""The interface: one list of calls in, one list of answers back; and all that is said of a line's beginning."""

import unittest

from blanched.batches import answers
from line import MILLION, MOST, NAMES, last, parted, tell, written

FIVE = [1, 2, 3, 4, 5]
# A call of each of the 27, with numbers that are in range.
EACH = (
    ("begin", 0), ("warm", 500, 10), ("batch", 3, FIVE), ("wash", 0), ("sieve", 0, 1), ("mix", 0, 1),
    ("heat", 0, 0, 1), ("enough", 0, 0), ("pack", 0), ("alive", 0), ("would", 0, 0, 1), ("need", 0, 0),
    ("leaves", 0, 0), ("best", 0), ("hotter", 0, 0), ("half", 0), ("done", 0), ("kg", 0), ("sizes", 0), ("mean", 0),
    ("parts", 0, 1), ("live",), ("of", 0), ("roots", 0), ("raw",), ("sums",), ("state",),
)
# Calls of the same kinds, with numbers that are not as told.
OUT_OF_RANGE = (
    ("warm", 0, MOST), ("batch", MOST, [65535] * 100), ("batch", 0, []), ("wash", MOST), ("sieve", MOST, 0),
    ("mix", MOST, MOST), ("heat", 9, 9, 0), ("enough", 9, 9), ("pack", MOST), ("alive", MOST), ("would", 9, 9, MOST),
    ("need", 9, 9), ("leaves", 9, 9), ("best", MOST), ("hotter", 9, 9), ("half", 9), ("done", 9), ("kg", 9),
    ("sizes", 9), ("mean", 9), ("parts", 9, 0), ("of", 9), ("roots", 9),
)
# An ordinary line with all 27 calls.
ORDINARY = (
    ("begin", 1000), ("warm", 500, 10), ("warm", 900, 100), ("batch", 7, FIVE), ("wash", 0), ("batch", 0, FIVE),
    ("heat", 0, 0, 2), ("alive", 0), ("would", 0, 1, 3), ("need", 0, 0), ("leaves", 0, 1), ("best", 0),
    ("sieve", 0, 3), ("enough", 2, 0), ("enough", 3, 0), ("mix", 3, 2), ("pack", 4), ("alive", 4), ("pack", 4),
    ("hotter", 1, 0), ("half", 0), ("done", 4), ("kg", 4), ("sizes", 4), ("mean", 4), ("parts", 4, 3), ("live",),
    ("of", 0), ("of", 1), ("roots", 4), ("raw",), ("sums",), ("state",),
)
ORDINARY_TOLD = [
    [0], [0], [1], [0, 0], [7], [1, 1],
    [250000, 980100], [250000, 980100], [250, 714492, 1], [8], [714492], [0, 8, 904380],
    [2, 6, 9], [8, 904380], [8, 904380], [4, 15], [15], [976, 904380], [-16],
    [1], [1], [1], [15, 0], [5, 1, 2, 3, 4, 5], [2666], [6, 9, 400], [1, 1],
    [0], [1, 1], [1, 0], [1, 1], [0, 37, 7, 15, 15], [0, 1000, 2, 5, 2],
]


class Interface(unittest.TestCase):
    def test_each_call_is_there(self):
        self.assertEqual([call[0] for call in EACH], list(NAMES))

    def test_numbers_as_they_stand(self):
        calls = [0, 0, 1, 500, 10, 2, 0, 5, 1, 2, 3, 4, 5, 6, 0, 0, 1, 9, 0, 8, 0, 4, 0, 2]
        self.assertEqual(
            answers(calls),
            [1, 0, 1, 0, 2, 0, 0, 2, 500000, 990000, 2, 500000, 990000, 1, -74, 3, 1, 3, 12],
        )

    def test_counts_as_they_stand(self):
        calls = [0, 9, 2, 3, 5, 1, 2, 3, 4, 5, 1, 1, 0, 14, 0, 0, 15, 0, 16, 0, 17, 0, 18, 0, 19, 0, 20, 0, 1, 21]
        calls.extend([22, 0, 23, 0, 24, 25, 26, 22, 1, 18, 1])
        told = [1, 0, 2, 0, 0, 1, 0, 1, 0, 1, -33, 1, 0, 2, 15, 3, 6, 5, 1, 2, 3, 4, 5, 1, 2666, 3, 1, 14, 66, 2, 1, 0]
        told.extend([2, 1, 0, 2, 1, 0, 2, 1, 0, 5, 0, 18, 0, 18, 0, 5, 0, 9, 1, 1, 1, 1, -2, 1, -2])
        self.assertEqual(answers(calls), told)

    def test_ordinary_line(self):
        self.assertEqual(tell(*ORDINARY), ORDINARY_TOLD)
        self.assertEqual({call[0] for call in ORDINARY}, set(NAMES))

    def test_a_list_of_whole_numbers(self):
        told = answers(written(ORDINARY))
        self.assertIs(type(told), list)
        for number in told:
            self.assertIs(type(number), int)

    def test_refusal_is_its_number_alone(self):
        refused = (("begin", MOST), *EACH[1:])
        self.assertEqual(answers(written(refused))[:4], [1, -22, 1, -11])

    def test_what_is_handed_in_stays_as_it_was(self):
        for line in (ORDINARY, (("begin", 0), *OUT_OF_RANGE), EACH[1:]):
            calls = written(line)
            before = list(calls)
            answers(calls)
            self.assertEqual(calls, before)

    def test_what_is_handed_in_is_never_written_to(self):
        class Kept(list):
            def refuse(self, *args):
                raise AssertionError("the list handed in was changed")

            append = extend = insert = pop = remove = clear = sort = reverse = refuse
            __setitem__ = __delitem__ = __iadd__ = __imul__ = refuse

        self.assertEqual(parted(answers(Kept(written(ORDINARY)))), ORDINARY_TOLD)

    def test_two_times_the_same(self):
        calls = written(ORDINARY)
        first = answers(calls)
        self.assertEqual(answers(calls), first)
        self.assertEqual(parted(first), ORDINARY_TOLD)

    def test_nothing_is_kept_from_one_time_to_the_next(self):
        tell(*ORDINARY)
        self.assertEqual(tell(("alive", 0)), [[-11]])
        self.assertEqual(tell(("begin", 0), ("alive", 0), ("need", 0, 0)), [[0], [-2], [-2]])
        told = tell(("begin", 0), ("live",), ("sums",), ("state",))
        self.assertEqual(told[1:], [[0], [0, 0, 0, 0, 0], [0, 0, 0, 0, 0]])

    def test_what_is_given_back_is_free_to_change(self):
        told = answers(written(ORDINARY))
        told.clear()
        self.assertEqual(tell(*ORDINARY), ORDINARY_TOLD)

    def test_256_calls(self):
        told = tell(("begin", 0), ("batch", 0, FIVE), *[("alive", 0)] * 254)
        self.assertEqual(told[:2], [[0], [0, 0]])
        for part in told[2:]:
            self.assertEqual(part, [MILLION, MILLION])

    def test_256_calls_with_long_rows(self):
        told = tell(("begin", 0), *[("batch", 0, [7] * 100)] * 254, ("batch", 0, [7] * 5))
        self.assertEqual((told[0], told[-1]), ([0], [0, 0]))
        for part in told[1:-1]:
            self.assertEqual(part, [-22])

    def test_256_calls_of_the_longest_heat(self):
        warmths = [("warm", 1, 1)] * 5
        told = tell(("begin", 0), *warmths, ("batch", 0, FIVE), *[("best", 0)] * 249)
        for part in told[7:]:
            self.assertEqual(part, [-33])

    def test_256_calls_of_the_longest_answer(self):
        line = (("begin", 0), *[("batch", 0, [1] * 5)] * 12, *[("sieve", b, 1) for b in range(12)])
        told = tell(*line, *[("live",)] * (256 - len(line)))
        for part in told[len(line):]:
            self.assertEqual(part, [24] + list(range(12, 36)))

    def test_behind_a_begin_each_wrong_call_is_refused(self):
        for call in OUT_OF_RANGE:
            told = last(("begin", 0), call)
            self.assertEqual(told, [-22] if call[0] in ("warm", "batch") else [-2], call)

    def test_a_line_of_one_call(self):
        self.assertEqual(answers([0, 5]), [1, 0])
        self.assertEqual(answers([26]), [1, -11])


class NotBegun(unittest.TestCase):
    def test_every_other_call(self):
        for call in (*EACH[1:], *OUT_OF_RANGE):
            self.assertEqual(tell(call), [[-11]], call)

    def test_all_in_one_line(self):
        line = (*EACH[1:], *OUT_OF_RANGE)
        self.assertEqual(tell(*line, ("begin", 0)), [[-11]] * len(line) + [[0]])

    def test_behind_a_refused_begin(self):
        line = (*EACH[1:], *OUT_OF_RANGE)
        self.assertEqual(tell(("begin", MILLION), *line), [[-22]] + [[-11]] * len(line))

    def test_what_was_called_before_is_not_kept(self):
        told = tell(("warm", 5, 5), ("batch", 0, FIVE), ("begin", 0), ("best", 0), ("warm", 5, 5), ("batch", 0, FIVE))
        self.assertEqual(told, [[-11], [-11], [0], [-2], [0], [0, 0]])
        told = tell(("warm", 5, 5), ("batch", 7, FIVE), ("wash", 0), ("begin", 3), ("sums",), ("state",), ("live",))
        self.assertEqual(told[4:], [[0, 0, 0, 0, 0], [0, 3, 0, 0, 0], [0]])

    def test_a_refused_begin_behind_a_begin(self):
        self.assertEqual(last(("begin", 0), ("batch", 0, FIVE), ("begin", MOST), ("alive", 0)), [MILLION, MILLION])


if __name__ == "__main__":
    unittest.main()
