"""Lines that are drawn with a fixed seed, against a second, plain reckoning; and what holds, a to f, over them."""

import itertools
import random
import unittest

from line import MILLION, MOST, MOST_CALLS, NAMES, last, tell

CHANGES = NAMES[:9]
# All that each call may answer, but for -11: 0 stands for an answer that is no refusal.
ANSWERED = {
    "begin": (0, -22), "warm": (0, -22, -28), "batch": (0, -22, -28), "wash": (0, -2, -16, -17),
    "sieve": (0, -2, -22, -16, -33, -28), "mix": (0, -2, -22, -16, -33, -28), "heat": (0, -2, -22, -16),
    "enough": (0, -2, -16, -33), "pack": (0, -2, -16, -74), "alive": (0, -2), "would": (0, -2, -22),
    "need": (0, -2, -33), "leaves": (0, -2, -33), "best": (0, -2, -33), "hotter": (0, -2), "half": (0, -2, -33),
    "done": (0, -2), "kg": (0, -2), "sizes": (0, -2), "mean": (0, -2), "parts": (0, -2, -22), "live": (0,),
    "of": (0, -2), "roots": (0, -2), "raw": (0,), "sums": (0,), "state": (0,),
}
# What is drawn more often than the rest: in most lines, and in those that come to 40 batches.
OFTEN = ("warm", "batch", "wash", "sieve", "sieve", "sieve", "mix", "mix", "heat", "enough", "pack")
FILLING = (*["batch"] * 10, *["wash"] * 10, *["sieve"] * 40, *["mix"] * 20)


class Refused(Exception):
    pass


def refuse(number, due):
    if due:
        raise Refused(number)


def cooled(amount, lost):
    """What is there of an amount after 0, 1 .. 600 seconds."""
    amounts = [amount]
    for second in range(600):
        # What goes is rounded up, so what stays is rounded down.
        amounts.append(amounts[-1] - (amounts[-1] * lost + 999) // 1000)
    return amounts


def first_below(amounts, limit):
    return next((second for second, amount in enumerate(amounts) if amount <= limit), None)


class Reckoning:
    """The document's words, one method a call; a batch is a dict."""

    def __init__(self):
        self.limit = None

    def answer(self, call):
        if self.limit is None and call[0] != "begin":
            return [-11]
        try:
            told = getattr(self, call[0])(*call[1:])
        except Refused as refused:
            return [refused.args[0]]
        return told if isinstance(told, list) else [told]

    def batch_at(self, b):
        refuse(-2, b >= len(self.batches))
        return self.batches[b]

    def warmth_at(self, w):
        refuse(-2, w >= len(self.warmths))
        return self.warmths[w]

    def there(self):
        return [b for b, batch in enumerate(self.batches) if not batch["gone"]]

    def add(self, sizes, waste, alive, green, roots):
        batch = {"sizes": sizes, "waste": waste, "alive": alive, "green": green, "roots": roots, "gone": False}
        self.batches.append(batch)
        return len(self.batches) - 1

    def begin(self, limit):
        refuse(-22, limit >= MILLION)
        self.limit = limit
        self.warmths, self.batches, self.firsts = [], [], 0
        self.came, self.off, self.away = [], [], []
        return 0

    def warm(self, kills, fades):
        refuse(-22, kills not in range(1, 1000) or fades not in range(1000))
        refuse(-28, len(self.warmths) == 5)
        self.warmths.append((kills, fades))
        return len(self.warmths) - 1

    def batch(self, waste, sizes):
        refuse(-22, len(sizes) != 5 or any(size > 10000 for size in sizes) or not any(sizes) or waste > 10000)
        refuse(-28, self.firsts == 12 or len(self.batches) == 40)
        self.came.extend([waste, *sizes])
        self.firsts += 1
        return [self.add(tuple(sizes), waste, MILLION, MILLION, {self.firsts - 1}), self.firsts - 1]

    def wash(self, b):
        batch = self.batch_at(b)
        refuse(-16, batch["gone"])
        refuse(-17, not batch["waste"])
        self.off.append(batch["waste"])
        batch["waste"] = 0
        return self.off[-1]

    def sieve(self, b, m):
        batch = self.batch_at(b)
        refuse(-22, m not in (1, 2, 3, 4))
        refuse(-16, batch["gone"] or batch["waste"])
        through = tuple(kg if size < m else 0 for size, kg in enumerate(batch["sizes"]))
        stays = tuple(kg if size >= m else 0 for size, kg in enumerate(batch["sizes"]))
        refuse(-33, not any(through) or not any(stays))
        refuse(-28, len(self.batches) > 38)
        batch["gone"] = True
        number = self.add(through, 0, batch["alive"], batch["green"], set(batch["roots"]))
        self.add(stays, 0, batch["alive"], batch["green"], set(batch["roots"]))
        return [number, sum(through), sum(stays)]

    def mix(self, b, c):
        one, other = self.batch_at(b), self.batch_at(c)
        refuse(-22, b == c)
        refuse(-16, one["gone"] or one["waste"] or other["gone"] or other["waste"])
        refuse(-33, (one["alive"], one["green"]) != (other["alive"], other["green"]))
        refuse(-28, len(self.batches) == 40)
        one["gone"] = other["gone"] = True
        sizes = tuple(x + y for x, y in zip(one["sizes"], other["sizes"]))
        return [self.add(sizes, 0, one["alive"], one["green"], one["roots"] | other["roots"]), sum(sizes)]

    def heat(self, b, w, s):
        batch, (kills, fades) = self.batch_at(b), self.warmth_at(w)
        refuse(-22, not 1 <= s <= 600)
        refuse(-16, batch["gone"] or batch["waste"])
        batch["alive"], batch["green"] = cooled(batch["alive"], kills)[s], cooled(batch["green"], fades)[s]
        return [batch["alive"], batch["green"]]

    def enough(self, b, w):
        batch, warmth = self.batch_at(b), self.warmth_at(w)
        refuse(-16, batch["gone"] or batch["waste"])
        seconds = self.need(b, w)
        if seconds:
            self.heat(b, w, seconds)
        return [seconds, batch["green"]]

    def pack(self, b):
        batch = self.batch_at(b)
        refuse(-16, batch["gone"])
        refuse(-74, not self.done(b))
        batch["gone"] = True
        self.away.append(sum(batch["sizes"]))
        return self.away[-1]

    def alive(self, b):
        return [self.batch_at(b)["alive"], self.batch_at(b)["green"]]

    def would(self, b, w, s):
        batch, (kills, fades) = self.batch_at(b), self.warmth_at(w)
        refuse(-22, s > 600)
        alive = cooled(batch["alive"], kills)[s]
        return [alive, cooled(batch["green"], fades)[s], int(alive <= self.limit)]

    def need(self, b, w):
        seconds = first_below(cooled(self.batch_at(b)["alive"], self.warmth_at(w)[0]), self.limit)
        refuse(-33, seconds is None)
        return seconds

    def leaves(self, b, w):
        return self.would(b, w, self.need(b, w))[1]

    def best(self, b):
        found = []
        self.batch_at(b)
        for w in range(len(self.warmths)):
            try:
                found.append((-self.leaves(b, w), w))
            except Refused:
                pass
        refuse(-33, not found)
        green, w = min(found)
        return [w, self.need(b, w), -green]

    def hotter(self, v, w):
        return int(self.warmth_at(v)[0] > self.warmth_at(w)[0])

    def half(self, w):
        seconds = first_below(cooled(MILLION, self.warmth_at(w)[0]), MILLION // 2)
        refuse(-33, seconds is None)
        return seconds

    def done(self, b):
        return int(self.batch_at(b)["waste"] == 0 and self.batch_at(b)["alive"] <= self.limit)

    def kg(self, b):
        return [sum(self.batch_at(b)["sizes"]), self.batch_at(b)["waste"]]

    def sizes(self, b):
        return [5, *self.batch_at(b)["sizes"]]

    def mean(self, b):
        none, one, two, three, four = self.batch_at(b)["sizes"]
        return 1000 * (one + 2 * two + 3 * three + 4 * four) // (none + one + two + three + four)

    def parts(self, b, m):
        sizes = self.batch_at(b)["sizes"]
        refuse(-22, m not in (1, 2, 3, 4))
        return [sum(sizes[:m]), sum(sizes[m:]), 1000 * sum(sizes[:m]) // sum(sizes)]

    def live(self):
        return [len(self.there()), *self.there()]

    def of(self, r):
        refuse(-2, r >= self.firsts)
        found = [b for b in self.there() if r in self.batches[b]["roots"]]
        return [len(found), *found]

    def roots(self, b):
        roots = self.batch_at(b)["roots"]
        return [len(roots), *sorted(roots)]

    def raw(self):
        found = [b for b in self.there() if self.batches[b]["alive"] > self.limit]
        return [len(found), *found]

    def sums(self):
        there = sum(sum(self.batches[b]["sizes"]) + self.batches[b]["waste"] for b in self.there())
        return [0, sum(self.came), sum(self.off), there, sum(self.away)]

    def state(self):
        return [0, self.limit, len(self.warmths), len(self.batches), self.firsts]


class Drawing:
    """Draws calls that fit what the reckoning holds more often than not."""

    def __init__(self, seed):
        self.chance = random.Random(seed)
        self.reckoning = Reckoning()

    def one_of(self, *values):
        return self.chance.choice(values)

    def number(self, most, count):
        """Mostly a number that there is, else one that there is not."""
        if count > 0 and self.chance.random() < 0.95:
            return self.chance.randrange(count)
        return self.one_of(count, most, MOST)

    def a_batch(self):
        if self.reckoning.limit is None:
            return self.one_of(0, 1, MOST)
        there = self.reckoning.there()
        if there and self.chance.random() < 0.8:
            return self.chance.choice(there)
        return self.number(40, len(self.reckoning.batches))

    def alike(self, b):
        """Mostly a batch that can be mixed with b."""
        if self.reckoning.limit is not None and b < len(self.reckoning.batches) and self.chance.random() < 0.7:
            told = self.reckoning.alive(b)
            found = [c for c in self.reckoning.there() if c != b and self.reckoning.alive(c) == told]
            if found:
                return self.chance.choice(found)
        return self.a_batch()

    def a_warmth(self):
        return self.number(5, 0 if self.reckoning.limit is None else len(self.reckoning.warmths))

    def a_first(self):
        return self.number(12, 0 if self.reckoning.limit is None else self.reckoning.firsts)

    def a_limit(self):
        limit = self.chance.randrange(MILLION)
        return self.one_of(0, 0, 1, 999, 1000, 500000, 548415, 548416, 999999, limit, self.one_of(MILLION, MOST))

    def a_mesh(self):
        return self.one_of(1, 2, 3, 4, 1, 2, 3, 4, 1, 2, 3, 4, 0, 5, MOST)

    def seconds(self):
        return self.one_of(1, 1, 2, 3, self.chance.randrange(1, 60), 599, 600, self.one_of(0, 601, MOST))

    def kills(self):
        kills = self.chance.randrange(1, 1000)
        return self.one_of(1, 2, 20, 499, 500, 501, 998, 999, kills, self.one_of(0, 1000, MOST))

    def fades(self):
        return self.one_of(0, 0, 1, 5, 33, 500, 999, self.chance.randrange(1000), self.one_of(1000, MOST))

    def waste(self):
        return self.one_of(0, 0, 0, 1, 10000, self.chance.randrange(10001), self.one_of(10001, MOST))

    def five(self):
        sizes = [self.one_of(0, 1, 2, 7, 10000, self.chance.randrange(10001)) for size in range(5)]
        if self.chance.random() < 0.1:
            return self.one_of([], sizes[:4], [*sizes, 1], [0] * 5, [*sizes[:4], 10001], [65535] * 100)
        return sizes

    def call(self, name):
        if name == "begin":
            return (name, self.a_limit())
        if name == "warm":
            return (name, self.kills(), self.fades())
        if name == "batch":
            return (name, self.waste(), self.five())
        if name in ("sieve", "parts"):
            return (name, self.a_batch(), self.a_mesh())
        if name == "mix":
            b = self.a_batch()
            return (name, b, self.one_of(*[self.alike(b)] * 9, b))
        if name in ("heat", "would"):
            return (name, self.a_batch(), self.a_warmth(), self.seconds())
        if name in ("enough", "need", "leaves"):
            return (name, self.a_batch(), self.a_warmth())
        if name == "hotter":
            return (name, self.a_warmth(), self.a_warmth())
        if name == "half":
            return (name, self.a_warmth())
        if name == "of":
            return (name, self.a_first())
        if name in ("live", "raw", "sums", "state"):
            return (name,)
        return (name, self.a_batch())

    def line(self, length, names):
        """So many calls, and what the reckoning answers."""
        often = self.one_of(OFTEN, OFTEN, FILLING)
        calls = []
        told = []
        while len(calls) < length:
            name = self.one_of(*often, *names)
            if len(calls) == 0 and self.chance.random() < 0.9:
                name = "begin"
            elif name == "begin" and self.chance.random() < 0.9:
                continue
            calls.append(self.call(name))
            told.append(self.reckoning.answer(calls[-1]))
        return calls, told


def drawn(seed, length=None, names=NAMES):
    drawing = Drawing(seed)
    calls, told = drawing.line(length or drawing.chance.randrange(1, MOST_CALLS + 1), names)
    return calls, told, drawing.reckoning


def begun(seeds, length):
    """Lines of changes alone that end with a begun object."""
    for seed in seeds:
        calls, told, reckoning = drawn(seed, length, CHANGES[1:])
        if reckoning.limit is not None:
            yield seed, calls, reckoning


def whole_look(reckoning):
    """All that can be told of each batch that has been, and of all together."""
    count = len(reckoning.batches)
    looks = [(name, b) for b in range(count) for name in ("alive", "sizes", "kg", "roots")]
    return (*looks, ("live",), ("raw",), ("sums",), ("state",))


class Compared(unittest.TestCase):
    def same(self, seed, calls, told, expected):
        # Call by call: of two whole lines unittest would take minutes to tell the difference.
        self.assertEqual((len(told), len(expected)), (len(calls), len(calls)))
        for at, call in enumerate(calls):
            self.assertEqual(told[at], expected[at], (seed, at, call))


class AsReckoned(Compared):
    def test_every_answer(self):
        met = {name: set() for name in NAMES}
        for seed in range(200):
            calls, told, reckoning = drawn(seed, MOST_CALLS if seed < 80 else None)
            self.same(seed, calls, tell(*calls), told)
            for call, part in zip(calls, told):
                met[call[0]].add(min(part[0], 0))
        # The lines are of use only if each call is met with each of its answers.
        for name in NAMES:
            self.assertEqual(met[name], {*ANSWERED[name], *([-11] if name != "begin" else [])}, name)


class AllThatCame(Compared):
    def test_a_is_washed_off_packed_or_there(self):
        for seed in range(2000, 2100):
            calls, told, reckoning = drawn(seed, MOST_CALLS // 2, CHANGES)
            both = [step for call in calls for step in (call, ("sums",))]
            for part in tell(*both)[1::2]:
                if part != [-11]:
                    self.assertEqual(part[1], part[2] + part[3] + part[4], seed)

    def test_a_as_reckoned_behind_every_call(self):
        for seed in range(2100, 2160):
            calls = drawn(seed, MOST_CALLS // 2, CHANGES)[0]
            reckoning = Reckoning()
            both = [step for call in calls for step in (call, ("sums",))]
            self.same(seed, both, tell(*both), [reckoning.answer(call) for call in both])


class LeastTimeAndBest(unittest.TestCase):
    def test_b_the_least_time_will_do_and_a_second_less_wont(self):
        for seed, calls, reckoning in begun(range(3000, 3040), 60):
            pairs = list(itertools.product(range(len(reckoning.batches)), range(len(reckoning.warmths))))[:90]
            needs = tell(*calls, *[("need", b, w) for b, w in pairs])[60:]
            for (b, w), need in zip(pairs, needs):
                if need == [-33]:
                    self.assertEqual(last(*calls, ("would", b, w, 600))[2], 0, seed)
                    continue
                self.assertEqual(last(*calls, ("would", b, w, need[0]))[2], 1, seed)
                if need[0] > 0:
                    self.assertEqual(last(*calls, ("would", b, w, need[0] - 1))[2], 0, seed)

    def test_b_what_kills_faster_needs_no_longer(self):
        for seed, calls, reckoning in begun(range(3100, 3160), 60):
            for v, w in itertools.permutations(range(len(reckoning.warmths)), 2):
                asked = [("need", b, warmth) for b in range(len(reckoning.batches)) for warmth in (v, w)]
                told = tell(*calls, ("hotter", v, w), *asked)[60:]
                if told[0] == [0]:
                    continue
                for hotter, other in zip(told[1::2], told[2::2]):
                    self.assertTrue(other == [-33] or 0 <= hotter[0] <= other[0], seed)

    def test_c_no_other_warmth_leaves_more_green(self):
        for seed, calls, reckoning in begun(range(3200, 3260), 60):
            for b in range(len(reckoning.batches)):
                asked = [("leaves", b, w) for w in range(len(reckoning.warmths))]
                told = tell(*calls, *asked, ("best", b))[60:]
                most = max([part[0] for part in told[:-1]], default=-33)
                if most == -33:
                    self.assertEqual(told[-1], [-33], seed)
                else:
                    self.assertEqual((told[-1][0], told[-1][2]), (told.index([most]), most), seed)


class SievedAndHeated(unittest.TestCase):
    def washed(self, seeds, length):
        """Lines with the batches that are there without waste."""
        for seed, calls, reckoning in begun(seeds, length):
            for b in reckoning.there():
                if reckoning.batches[b]["waste"] == 0:
                    yield seed, calls, b

    def parts(self, calls, b, order):
        """The parts of b by these meshes in this order; None where there is no room for them."""
        line = list(calls)
        held = [b]
        for m in order:
            for part in list(held):
                told = last(*line, ("sieve", part, m))
                if told == [-28]:
                    return None
                if told != [-33]:
                    line.append(("sieve", part, m))
                    held.remove(part)
                    held.extend([told[0], told[0] + 1])
        return sorted([tell(*line, ("sizes", part), ("alive", part), ("roots", part))[-3:] for part in held])

    def test_d_in_whatever_order_the_parts_are_the_same(self):
        compared = 0
        for seed, calls, b in self.washed(range(4000, 4012), 30):
            found = [self.parts(calls, b, order) for order in itertools.permutations((1, 2, 3, 4))]
            if None in found:
                continue
            compared += len(found[0]) > 2
            for parts in found:
                self.assertEqual(parts, found[0], seed)
        self.assertGreater(compared, 5)

    def test_d_sieved_and_mixed_again_it_is_as_it_was(self):
        compared = 0
        for seed, calls, b in self.washed(range(4100, 4160), 40):
            names = ("alive", "done", "kg", "sizes", "mean", "roots")
            for m in (1, 2, 3, 4):
                part = last(*calls, ("sieve", b, m))[0]
                line = (*calls, ("sieve", b, m), ("mix", part + 1, part))
                if part < 0 or last(*line) == [-28]:
                    continue
                compared += 1
                told = tell(*line, *[(name, b) for name in names], *[(name, part + 2) for name in names])
                self.assertEqual(told[-12:-6], told[-6:], seed)
        self.assertGreater(compared, 50)

    def test_e_heated_in_two_goes_it_is_as_in_one(self):
        for seed, calls, b in self.washed(range(4200, 4230), 40):
            for one, other in ((1, 1), (3, 40), (1, 599), (300, 300)):
                whole = last(*calls, ("heat", b, 0, one + other))
                if whole != [-2]:
                    self.assertEqual(last(*calls, ("heat", b, 0, one), ("heat", b, 0, other)), whole, seed)

    def test_e_packed_is_only_what_is_washed_and_little_enough_alive(self):
        seen = {(1,): 0, (0,): 0}
        for seed, calls, reckoning in begun(range(4300, 4400), 100):
            line = [step for call in calls for step in ((("done", call[1]), call) if call[0] == "pack" else (call,))]
            told = tell(*line)
            for at, call in enumerate(line):
                if call[0] != "pack" or told[at] in ([-2], [-11], [-16]):
                    continue
                seen[tuple(told[at - 1])] += 1
                self.assertEqual(told[at] != [-74], told[at - 1] == [1], seed)
        self.assertGreater(min(seen.values()), 20)


class ChangesNothing(Compared):
    def test_f_what_is_refused_and_looking_may_as_well_be_left_out(self):
        for seed in range(5000, 5060):
            calls, told, reckoning = drawn(seed, 90)
            kept = [at for at, call in enumerate(calls) if call[0] in CHANGES and told[at][0] >= 0]
            looks = whole_look(reckoning) if reckoning.limit is not None else (("state",),)
            answered = tell(*calls, *looks)
            shorter = [*[calls[at] for at in kept], *looks]
            self.same(seed, shorter, tell(*shorter), [answered[at] for at in kept] + answered[len(calls):])

    def test_f_behind_each_call_that_is_refused_or_looks_all_is_as_before(self):
        for seed in range(5100, 5110):
            calls, told, reckoning = drawn(seed, 70)
            reckoning = Reckoning()
            for at, call in enumerate(calls):
                reckoning.answer(call)
                if reckoning.limit is None or (call[0] in CHANGES and told[at][0] >= 0):
                    continue
                looks = whole_look(reckoning)
                before = tell(*calls[:at], *looks)[at:]
                self.same((seed, call), looks, tell(*calls[:at + 1], *looks)[at + 1:], before)


if __name__ == "__main__":
    unittest.main()
