"""What holds, a to f, over many inputs."""

import itertools
import unittest

from line import MILLION, MOST, last, tell

FIVE = [1, 2, 3, 4, 5]
KILLS = (1, 2, 7, 20, 23, 100, 500, 998, 999)
LIMITS = (0, 1, 2, 500, 999, 1000, 300000, 548415, 548416, 999999)
# A line in which each call does something, for others to be put between its calls.
LINE = (
    ("begin", 1000), ("warm", 500, 10), ("warm", 900, 100), ("warm", 1, 0), ("batch", 7, FIVE), ("wash", 0),
    ("batch", 0, FIVE), ("batch", 9, [10000] * 5), ("sieve", 0, 3), ("heat", 3, 0, 2), ("heat", 4, 0, 2), ("mix", 3, 4),
    ("enough", 5, 0), ("pack", 5), ("enough", 1, 1), ("sieve", 1, 1), ("pack", 6), ("wash", 2), ("heat", 2, 2, 600),
    ("enough", 2, 0), ("pack", 2), ("batch", 1, FIVE), ("warm", 3, 3),
)
LOOKS = (
    *[("alive", b) for b in range(10)], *[("best", b) for b in range(10)],
    *[("would", b, w, s) for b in range(10) for w in (0, 1) for s in (0, 1, 600)],
    *[(name, b, w) for name in ("need", "leaves") for b in range(10) for w in (0, 1)],
    *[(name, b) for name in ("done", "kg", "sizes", "mean", "roots") for b in range(10)],
    *[("parts", b, 2) for b in range(10)], ("parts", 0, 0), ("parts", 0, 5), ("hotter", 0, 1), ("hotter", 1, 0),
    ("hotter", 0, 9), ("half", 0), ("half", 2), ("half", 9), *[("of", r) for r in range(5)],
    ("live",), ("raw",), ("sums",), ("state",),
)
# Each of these is refused wherever in LINE it stands.
REFUSED = (
    ("begin", MILLION), ("begin", MOST), ("warm", 0, 0), ("warm", 1000, 0), ("warm", 1, 1000), ("batch", 0, []),
    ("batch", 0, [0] * 5), ("batch", 10001, FIVE), ("batch", 0, [10001] * 5), ("wash", 30), ("sieve", 30, 1),
    *[("sieve", b, m) for b in range(9) for m in (0, 5)], *[("mix", b, b) for b in range(9)],
    *[("mix", b, 30) for b in range(9)], *[("heat", b, 0, s) for b in range(9) for s in (0, 601)],
    *[("heat", b, 6, 1) for b in range(9)], *[("enough", b, 6) for b in range(9)], ("pack", 30),
)
# Each of these is refused behind the whole of LINE: gone, unwashed, never, not done.
REFUSED_LAST = (
    *[(name, b) for name in ("wash", "pack") for b in (0, 1, 2, 3, 4, 5, 6)],
    *[("sieve", b, 2) for b in range(7)], *[("mix", b, 7) for b in range(7)], *[("heat", b, 0, 1) for b in range(7)],
    *[("enough", b, 0) for b in range(7)], ("pack", 8), ("heat", 8, 0, 1), ("enough", 8, 2), ("mix", 7, 8),
)


class AllThatCame(unittest.TestCase):
    def test_is_washed_off_packed_or_there(self):
        for end in range(1, len(LINE) + 1):
            came, washed, there, packed = last(*LINE[:end], ("sums",))[1:]
            self.assertEqual(came, washed + there + packed)

    def test_there_are_the_kilograms_and_waste_of_those_that_are_live(self):
        for end in range(1, len(LINE) + 1):
            told = tell(*LINE[:end], ("sums",), ("live",))
            weights = [last(*LINE[:end], ("kg", b)) for b in told[-1][1:]]
            self.assertEqual(told[-2][3], sum(kilograms + waste for kilograms, waste in weights))


class LeastTime(unittest.TestCase):
    def test_will_do_and_a_second_less_wont(self):
        for limit, kills in itertools.product(LIMITS, KILLS):
            line = (("begin", limit), ("warm", kills, 3), ("batch", 0, FIVE))
            need = last(*line, ("need", 0, 0))
            if need == [-33]:
                self.assertEqual(last(*line, ("would", 0, 0, 600))[2], 0)
                continue
            seconds = need[0]
            told = tell(*line, ("would", 0, 0, seconds), ("would", 0, 0, seconds - 1), ("leaves", 0, 0))
            self.assertEqual((told[-3][2], told[-2][2]), (1, 0))
            self.assertEqual(told[-1], [told[-3][1]])

    def test_what_kills_faster_needs_no_longer(self):
        for limit in LIMITS:
            needs = [last(("begin", limit), ("warm", k, 0), ("batch", 0, FIVE), ("need", 0, 0))[0] for k in KILLS]
            ends = [601 if need < 0 else need for need in needs]
            self.assertEqual(ends, sorted(ends, reverse=True))

    def test_enough_does_what_need_and_leaves_tell(self):
        for limit, kills in itertools.product(LIMITS, KILLS):
            line = (("begin", limit), ("warm", kills, 3), ("batch", 0, FIVE), ("need", 0, 0), ("leaves", 0, 0))
            told = tell(*line, ("enough", 0, 0), ("done", 0), ("pack", 0))
            if told[3] == [-33]:
                self.assertEqual(told[4:], [[-33], [-33], [0], [-74]])
            else:
                self.assertEqual(told[4:], [told[4], told[3] + told[4], [1], [15]])


class BestWarmth(unittest.TestCase):
    def test_no_other_leaves_more(self):
        warmths = ((1, 0), (23, 1), (100, 5), (500, 40), (999, 200))
        for limit, order in itertools.product(LIMITS, itertools.permutations(warmths)):
            line = (("begin", limit), *[("warm", k, f) for k, f in order], ("batch", 0, FIVE))
            told = tell(*line, *[("leaves", 0, w) for w in range(5)], *[("need", 0, w) for w in range(5)], ("best", 0))
            leaves = [part[0] for part in told[7:12]]
            w = leaves.index(max(leaves))
            self.assertEqual(told[-1], [w, told[12 + w][0], leaves[w]])


class Sieved(unittest.TestCase):
    def parts(self, order):
        """What is told of each part when the meshes are used in this order."""
        line = [("begin", 0), ("batch", 0, [5, 40, 300, 2000, 10000])]
        held = [(0, 0, 5)]
        for m in order:
            b, low, high = next(part for part in held if part[1] < m < part[2])
            line.append(("sieve", b, m))
            new = last(*line)[0]
            held.remove((b, low, high))
            held.extend([(new, low, m), (new + 1, m, high)])
        return {low: tell(*line, ("sizes", b), ("roots", b))[-2:] for b, low, high in held}

    def test_in_whatever_order(self):
        weights = [5, 40, 300, 2000, 10000]
        parts = {k: [[5] + [0] * k + [weights[k]] + [0] * (4 - k), [1, 0]] for k in range(5)}
        for order in itertools.permutations((1, 2, 3, 4)):
            self.assertEqual(self.parts(order), parts)

    def test_mixed_again_as_it_was(self):
        line = (("begin", 0), ("warm", 9, 9), ("batch", 0, FIVE), ("heat", 0, 0, 5))
        for m, again in itertools.product((1, 2, 3, 4), repeat=2):
            whole = last(*line, ("sieve", 0, again))
            told = tell(*line, ("sieve", 0, m), ("mix", 1, 2), ("sieve", 3, again))
            self.assertEqual(told[5], [3, 15])
            self.assertEqual(told[6][1:], whole[1:])
            for name in ("alive", "done", "kg", "sizes", "mean", "roots"):
                self.assertEqual(last(*line, (name, 0)), last(*line, ("sieve", 0, m), ("mix", 1, 2), (name, 3)))


class Heated(unittest.TestCase):
    def test_in_two_goes_as_in_one(self):
        for kills, fades in itertools.product(KILLS, (0, 1, 33, 999)):
            line = (("begin", 0), ("warm", kills, fades), ("batch", 0, FIVE))
            for one, other in ((1, 1), (1, 4), (7, 12), (300, 300), (599, 1)):
                whole = last(*line, ("heat", 0, 0, one + other))
                self.assertEqual(last(*line, ("heat", 0, 0, one), ("heat", 0, 0, other)), whole)
                self.assertEqual(last(*line, ("would", 0, 0, one + other))[:2], whole)

    def test_packed_is_only_what_is_washed_and_little_enough_alive(self):
        for waste, washed, seconds in itertools.product((0, 4), (False, True), range(5)):
            line = [("begin", 1), ("warm", 999, 0), ("batch", waste, FIVE)]
            if washed:
                line.append(("wash", 0))
            if seconds > 0:
                line.append(("heat", 0, 0, seconds))
            done = (washed or waste == 0) and seconds >= 2
            self.assertEqual(last(*line, ("pack", 0)), [15] if done else [-74])


class ChangesNothing(unittest.TestCase):
    def test_the_line_itself(self):
        told = tell(*LINE)
        self.assertTrue(all(part[0] >= 0 for part in told), told)

    def between(self, call):
        """LINE with this call ahead of it and behind each of its calls: what LINE answers, and what the call does."""
        mixed = [call]
        for step in LINE:
            mixed.extend([step, call])
        told = tell(*mixed)
        return told[1::2], told[0::2]

    def test_looking(self):
        plain = tell(*LINE)
        for call in LOOKS:
            self.assertEqual(self.between(call)[0], plain, call)

    def test_refused(self):
        plain = tell(*LINE)
        for call in REFUSED:
            line, own = self.between(call)
            self.assertTrue(all(len(part) == 1 and part[0] < 0 for part in own), call)
            self.assertEqual(line, plain, call)

    def test_refused_and_looked_at(self):
        plain = tell(*LINE, *LOOKS)
        for call in (*REFUSED, *REFUSED_LAST):
            told = tell(*LINE, call, *LOOKS)
            refused = told.pop(len(LINE))
            self.assertTrue(len(refused) == 1 and refused[0] < 0, (call, refused))
            self.assertTrue(told == plain, call)

    def test_too_many_changes_nothing(self):
        full = (("begin", 0), *[("warm", 500, k) for k in range(5)], *[("batch", 0, [1] * 5)] * 12)
        sieved = (*[("sieve", b, 1) for b in range(12)], ("sieve", 13, 2), ("sieve", 15, 2))
        looks = [("alive", b) for b in (0, 11, 17, 19, 39, 40)]
        later = (("heat", 17, 0, 1), ("heat", 19, 0, 1), ("enough", 17, 0), ("pack", 17), ("best", 39))
        plain = tell(*full, *sieved, *looks, *later)
        for call in (("warm", 999, 0), ("batch", 0, FIVE), ("sieve", 17, 2), ("mix", 17, 19)):
            told = tell(*full, *sieved, call, *looks, *later)
            self.assertEqual(told.pop(len(full) + len(sieved)), [-28])
            self.assertEqual(told, plain, call)

    def test_not_so_changes_nothing(self):
        line = (("begin", 0), ("warm", 1, 0), ("batch", 0, [1, 0, 0, 0, 0]), ("batch", 0, FIVE), ("heat", 1, 0, 1))
        looks = (("alive", 0), ("alive", 1), ("alive", 2), ("heat", 0, 0, 1), ("mix", 0, 1))
        plain = tell(*line, *looks)
        self.assertEqual(plain[-1], [2, 16])
        for call in (("sieve", 0, 1), ("mix", 0, 1), ("enough", 0, 0), ("need", 0, 0), ("leaves", 0, 0), ("best", 0)):
            told = tell(*line, call, *looks)
            self.assertEqual(told.pop(len(line)), [-33])
            self.assertEqual(told, plain, call)


if __name__ == "__main__":
    unittest.main()
