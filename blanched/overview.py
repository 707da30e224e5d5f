"""The calls that look over all that is kept (point 5): they change nothing."""

from blanched.kitchen import has_batch, is_little_enough, kilograms
from blanched.refusals import NO_SUCH


def counted(numbers):
    return [len(numbers)] + numbers


def numbers_there(kitchen):
    return [b for b in range(len(kitchen.batches)) if not kitchen.batches[b].gone]


def tell_live(kitchen):
    return counted(numbers_there(kitchen))


def tell_of(kitchen, r):
    if r >= kitchen.firsts:
        return [NO_SUCH]
    return counted([b for b in numbers_there(kitchen) if r in kitchen.batches[b].roots])


def tell_roots(kitchen, b):
    if not has_batch(kitchen, b):
        return [NO_SUCH]
    return counted(kitchen.batches[b].roots)


def tell_raw(kitchen):
    there = numbers_there(kitchen)
    return counted([b for b in there if not is_little_enough(kitchen, kitchen.batches[b].alive)])


def kilograms_there(kitchen):
    batches = [kitchen.batches[b] for b in numbers_there(kitchen)]
    return sum([kilograms(batch) + batch.waste for batch in batches])


def tell_sums(kitchen):
    return [0, kitchen.came, kitchen.washed, kilograms_there(kitchen), kitchen.packed]


def tell_state(kitchen):
    return [0, kitchen.limit, len(kitchen.warmths), len(kitchen.batches), kitchen.firsts]
