"""What one object keeps: its limit, its warmths, its batches and its sums."""

from blanched.heating import after_seconds, least_seconds

MILLION = 1000000
SIZE_COUNT = 5


class Warmth:
    def __init__(self, kills, fades):
        self.kills = kills
        self.fades = fades


class Batch:
    """Roots are the numbers of the first batches that it is of, rising, each once."""

    def __init__(self, waste, sizes, alive, green, roots):
        self.waste = waste
        self.sizes = sizes
        self.alive = alive
        self.green = green
        self.roots = roots
        self.gone = False


class Kitchen:
    """Batches that are gone stay in the list: they are told still, and their numbers are not given again.

    Came, washed and packed are kilograms: all that ever came with its waste, the waste washed off, what was packed.
    """

    def __init__(self):
        self.begun = False
        self.make_empty(0)

    def make_empty(self, limit):
        self.limit = limit
        self.warmths = []
        self.batches = []
        self.firsts = 0
        self.came = 0
        self.washed = 0
        self.packed = 0


def has_batch(kitchen, b):
    return b < len(kitchen.batches)


def has_warmth(kitchen, w):
    return w < len(kitchen.warmths)


def is_mesh(m):
    return 1 <= m < SIZE_COUNT


def kilograms(batch):
    return sum(batch.sizes)


def is_little_enough(kitchen, alive):
    return alive <= kitchen.limit


def is_done(kitchen, batch):
    return batch.waste == 0 and is_little_enough(kitchen, batch.alive)


def seconds_needed(kitchen, b, w):
    """Just long enough for batch b at warmth w; None where there is no such time."""
    return least_seconds(kitchen.batches[b].alive, kitchen.warmths[w].kills, kitchen.limit)


def alive_after(kitchen, b, w, seconds):
    return after_seconds(kitchen.batches[b].alive, kitchen.warmths[w].kills, seconds)


def green_after(kitchen, b, w, seconds):
    return after_seconds(kitchen.batches[b].green, kitchen.warmths[w].fades, seconds)
