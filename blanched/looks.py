"""The calls that look at the heat (point 3): they change nothing, and tell of batches that are gone too."""

from blanched.heating import LONGEST, least_seconds
from blanched.kitchen import MILLION, alive_after, green_after, has_batch, has_warmth, is_little_enough
from blanched.kitchen import seconds_needed
from blanched.refusals import NO_SUCH, NOT_SO, OUT_OF_RANGE

HALF_A_MILLION = 500000


def tell_alive(kitchen, b):
    if not has_batch(kitchen, b):
        return [NO_SUCH]
    batch = kitchen.batches[b]
    return [batch.alive, batch.green]


def tell_would(kitchen, b, w, s):
    if not has_batch(kitchen, b) or not has_warmth(kitchen, w):
        return [NO_SUCH]
    if s > LONGEST:
        return [OUT_OF_RANGE]
    alive = alive_after(kitchen, b, w, s)
    enough = 1 if is_little_enough(kitchen, alive) else 0
    return [alive, green_after(kitchen, b, w, s), enough]


def tell_need(kitchen, b, w):
    if not has_batch(kitchen, b) or not has_warmth(kitchen, w):
        return [NO_SUCH]
    seconds = seconds_needed(kitchen, b, w)
    if seconds is None:
        return [NOT_SO]
    return [seconds]


def tell_leaves(kitchen, b, w):
    if not has_batch(kitchen, b) or not has_warmth(kitchen, w):
        return [NO_SUCH]
    seconds = seconds_needed(kitchen, b, w)
    if seconds is None:
        return [NOT_SO]
    return [green_after(kitchen, b, w, seconds)]


def tell_best(kitchen, b):
    if not has_batch(kitchen, b):
        return [NO_SUCH]
    best = None
    for w in range(len(kitchen.warmths)):
        seconds = seconds_needed(kitchen, b, w)
        if seconds is None:
            continue
        green = green_after(kitchen, b, w, seconds)
        if best is None or green > best[2]:
            best = [w, seconds, green]
    if best is None:
        return [NOT_SO]
    return best


def tell_hotter(kitchen, v, w):
    if not has_warmth(kitchen, v) or not has_warmth(kitchen, w):
        return [NO_SUCH]
    return [1 if kitchen.warmths[v].kills > kitchen.warmths[w].kills else 0]


def tell_half(kitchen, w):
    if not has_warmth(kitchen, w):
        return [NO_SUCH]
    seconds = least_seconds(MILLION, kitchen.warmths[w].kills, HALF_A_MILLION)
    if seconds is None:
        return [NOT_SO]
    return [seconds]
