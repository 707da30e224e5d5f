"""What one object keeps: its limit, its warmths and its batches."""

from blanched.heating import after_seconds, least_seconds

MILLION = 1000000


class Warmth:
    def __init__(self, kills, fades):
        self.kills = kills
        self.fades = fades


class Batch:
    """Roots are the numbers of the first batches that it is of, rising, each once."""

    def __init__(self, waste, sizes, alive, green, roots):
        self.waste = waste
        self.sizes = sizes
        self.alive = alive
        self.green = green
        self.roots = roots
        self.gone = False


class Kitchen:
    """Batches that are gone stay in the list: they are told still, and their numbers are not given again."""

    def __init__(self):
        self.begun = False
        self.limit = 0
        self.warmths = []
        self.batches = []
        self.firsts = 0


def has_batch(kitchen, b):
    return b < len(kitchen.batches)


def has_warmth(kitchen, w):
    return w < len(kitchen.warmths)


def kilograms(batch):
    return sum(batch.sizes)


def is_little_enough(kitchen, alive):
    return alive <= kitchen.limit


def seconds_needed(kitchen, b, w):
    """Just long enough for batch b at warmth w; None where there is no such time."""
    return least_seconds(kitchen.batches[b].alive, kitchen.warmths[w].kills, kitchen.limit)


def alive_after(kitchen, b, w, seconds):
    return after_seconds(kitchen.batches[b].alive, kitchen.warmths[w].kills, seconds)


def green_after(kitchen, b, w, seconds):
    return after_seconds(kitchen.batches[b].green, kitchen.warmths[w].fades, seconds)
