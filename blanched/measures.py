"""The calls that measure one batch (point 4): they change nothing, and tell of batches that are gone too."""

from blanched.kitchen import SIZE_COUNT, has_batch, is_done, is_mesh, kilograms
from blanched.refusals import NO_SUCH, OUT_OF_RANGE

THOUSAND = 1000


def tell_done(kitchen, b):
    if not has_batch(kitchen, b):
        return [NO_SUCH]
    return [1 if is_done(kitchen, kitchen.batches[b]) else 0]


def tell_kilograms(kitchen, b):
    if not has_batch(kitchen, b):
        return [NO_SUCH]
    batch = kitchen.batches[b]
    return [kilograms(batch), batch.waste]


def tell_sizes(kitchen, b):
    if not has_batch(kitchen, b):
        return [NO_SUCH]
    return [SIZE_COUNT] + kitchen.batches[b].sizes


def tell_mean(kitchen, b):
    if not has_batch(kitchen, b):
        return [NO_SUCH]
    batch = kitchen.batches[b]
    weighed = sum([size * batch.sizes[size] for size in range(SIZE_COUNT)])
    # No batch is without kilograms: batch and sieve refuse that.
    return [weighed * THOUSAND // kilograms(batch)]


def tell_parts(kitchen, b, m):
    if not has_batch(kitchen, b):
        return [NO_SUCH]
    if not is_mesh(m):
        return [OUT_OF_RANGE]
    batch = kitchen.batches[b]
    through = sum(batch.sizes[:m])
    return [through, kilograms(batch) - through, through * THOUSAND // kilograms(batch)]
