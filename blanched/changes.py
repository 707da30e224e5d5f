"""The calls that change what is kept (points 1 and 2).

Each answers a list. All refusals stand ahead of the first change, in the order of the promise,
so that a refused call leaves all as it was.
"""

from blanched.heating import LONGEST
from blanched.kitchen import MILLION, SIZE_COUNT, Batch, Warmth, alive_after, green_after, has_batch, has_warmth
from blanched.kitchen import is_done, is_mesh, kilograms, seconds_needed
from blanched.refusals import GONE_OR_UNWASHED, NO_SUCH, NO_WASTE, NOT_DONE, NOT_SO, OUT_OF_RANGE, TOO_MANY

MOST_WARMTHS = 5
MOST_FIRSTS = 12
MOST_BATCHES = 40
MOST_LOST = 999
MOST_KILOGRAMS = 10000


def begin_anew(kitchen, limit):
    if limit >= MILLION:
        return [OUT_OF_RANGE]
    kitchen.begun = True
    kitchen.make_empty(limit)
    return [0]


def add_warmth(kitchen, kills, fades):
    if kills < 1 or kills > MOST_LOST or fades > MOST_LOST:
        return [OUT_OF_RANGE]
    if len(kitchen.warmths) == MOST_WARMTHS:
        return [TOO_MANY]
    kitchen.warmths.append(Warmth(kills, fades))
    return [len(kitchen.warmths) - 1]


def are_sizes(sizes):
    return len(sizes) == SIZE_COUNT and max(sizes) <= MOST_KILOGRAMS and sum(sizes) > 0


def add_batch(kitchen, waste, sizes):
    if not are_sizes(sizes) or waste > MOST_KILOGRAMS:
        return [OUT_OF_RANGE]
    if kitchen.firsts == MOST_FIRSTS or len(kitchen.batches) == MOST_BATCHES:
        return [TOO_MANY]
    first = kitchen.firsts
    kitchen.firsts = first + 1
    kitchen.batches.append(Batch(waste, sizes, MILLION, MILLION, [first]))
    kitchen.came += sum(sizes) + waste
    return [len(kitchen.batches) - 1, first]


def wash_batch(kitchen, b):
    if not has_batch(kitchen, b):
        return [NO_SUCH]
    batch = kitchen.batches[b]
    if batch.gone:
        return [GONE_OR_UNWASHED]
    if batch.waste == 0:
        return [NO_WASTE]
    waste = batch.waste
    batch.waste = 0
    kitchen.washed += waste
    return [waste]


def is_usable(batch):
    return not batch.gone and batch.waste == 0


def part_of(batch, sizes):
    return Batch(0, sizes, batch.alive, batch.green, list(batch.roots))


def sieve_batch(kitchen, b, m):
    if not has_batch(kitchen, b):
        return [NO_SUCH]
    if not is_mesh(m):
        return [OUT_OF_RANGE]
    batch = kitchen.batches[b]
    if not is_usable(batch):
        return [GONE_OR_UNWASHED]
    through = part_of(batch, batch.sizes[:m] + [0] * (SIZE_COUNT - m))
    stays = part_of(batch, [0] * m + batch.sizes[m:])
    if kilograms(through) == 0 or kilograms(stays) == 0:
        return [NOT_SO]
    if len(kitchen.batches) + 2 > MOST_BATCHES:
        return [TOO_MANY]
    batch.gone = True
    kitchen.batches.append(through)
    kitchen.batches.append(stays)
    return [len(kitchen.batches) - 2, kilograms(through), kilograms(stays)]


def mixture_of(one, other):
    sizes = [one.sizes[k] + other.sizes[k] for k in range(SIZE_COUNT)]
    # Parts of one first batch may meet again: it is to be told once.
    roots = sorted(set(one.roots) | set(other.roots))
    return Batch(0, sizes, one.alive, one.green, roots)


def mix_batches(kitchen, b, c):
    if not has_batch(kitchen, b) or not has_batch(kitchen, c):
        return [NO_SUCH]
    if b == c:
        return [OUT_OF_RANGE]
    one = kitchen.batches[b]
    other = kitchen.batches[c]
    if not is_usable(one) or not is_usable(other):
        return [GONE_OR_UNWASHED]
    if one.alive != other.alive or one.green != other.green:
        return [NOT_SO]
    if len(kitchen.batches) == MOST_BATCHES:
        return [TOO_MANY]
    mixture = mixture_of(one, other)
    one.gone = True
    other.gone = True
    kitchen.batches.append(mixture)
    return [len(kitchen.batches) - 1, kilograms(mixture)]


def heat(kitchen, b, w, seconds):
    alive = alive_after(kitchen, b, w, seconds)
    green = green_after(kitchen, b, w, seconds)
    batch = kitchen.batches[b]
    batch.alive = alive
    batch.green = green


def heat_batch(kitchen, b, w, s):
    if not has_batch(kitchen, b) or not has_warmth(kitchen, w):
        return [NO_SUCH]
    if s < 1 or s > LONGEST:
        return [OUT_OF_RANGE]
    batch = kitchen.batches[b]
    if not is_usable(batch):
        return [GONE_OR_UNWASHED]
    heat(kitchen, b, w, s)
    return [batch.alive, batch.green]


def heat_enough(kitchen, b, w):
    if not has_batch(kitchen, b) or not has_warmth(kitchen, w):
        return [NO_SUCH]
    batch = kitchen.batches[b]
    if not is_usable(batch):
        return [GONE_OR_UNWASHED]
    seconds = seconds_needed(kitchen, b, w)
    if seconds is None:
        return [NOT_SO]
    heat(kitchen, b, w, seconds)
    return [seconds, batch.green]


def pack_batch(kitchen, b):
    if not has_batch(kitchen, b):
        return [NO_SUCH]
    batch = kitchen.batches[b]
    if batch.gone:
        return [GONE_OR_UNWASHED]
    if not is_done(kitchen, batch):
        return [NOT_DONE]
    batch.gone = True
    kitchen.packed += kilograms(batch)
    return [kilograms(batch)]
