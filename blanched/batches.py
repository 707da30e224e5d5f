"""A line of calls on one new object, handed in and answered as one list of whole numbers."""

from blanched.changes import add_batch, add_warmth, begin_anew, heat_batch, heat_enough, mix_batches
from blanched.changes import pack_batch, sieve_batch, wash_batch
from blanched.kitchen import Kitchen
from blanched.looks import tell_alive, tell_best, tell_half, tell_hotter, tell_leaves, tell_need, tell_would
from blanched.measures import tell_done, tell_kilograms, tell_mean, tell_parts, tell_sizes
from blanched.overview import tell_live, tell_of, tell_raw, tell_roots, tell_state, tell_sums
from blanched.refusals import NOT_BEGUN

BEGIN = 0
WARM = 1
BATCH = 2
WASH = 3
SIEVE = 4
MIX = 5
HEAT = 6
ENOUGH = 7
PACK = 8
ALIVE = 9
WOULD = 10
NEED = 11
LEAVES = 12
BEST = 13
HOTTER = 14
HALF = 15
DONE = 16
KG = 17
SIZES = 18
MEAN = 19
PARTS = 20
LIVE = 21
OF = 22
ROOTS = 23
RAW = 24
SUMS = 25

# How many whole numbers stand behind each call's own. For batch these are waste and how many sizes follow.
WHOLE_NUMBERS = (1, 2, 2, 1, 2, 2, 3, 2, 1, 1, 3, 2, 2, 1, 2, 1, 1, 1, 1, 1, 2, 0, 1, 1, 0, 0, 0)


def end_of_call(calls, start):
    number = calls[start]
    end = start + 1 + WHOLE_NUMBERS[number]
    if number == BATCH:
        return end + calls[end - 1]
    return end


def answer_change(kitchen, call):
    number = call[0]
    if number == BEGIN:
        return begin_anew(kitchen, call[1])
    if number == WARM:
        return add_warmth(kitchen, call[1], call[2])
    if number == BATCH:
        return add_batch(kitchen, call[1], call[3:])
    if number == WASH:
        return wash_batch(kitchen, call[1])
    if number == SIEVE:
        return sieve_batch(kitchen, call[1], call[2])
    if number == MIX:
        return mix_batches(kitchen, call[1], call[2])
    if number == HEAT:
        return heat_batch(kitchen, call[1], call[2], call[3])
    if number == ENOUGH:
        return heat_enough(kitchen, call[1], call[2])
    return pack_batch(kitchen, call[1])


def answer_look(kitchen, call):
    number = call[0]
    if number == ALIVE:
        return tell_alive(kitchen, call[1])
    if number == WOULD:
        return tell_would(kitchen, call[1], call[2], call[3])
    if number == NEED:
        return tell_need(kitchen, call[1], call[2])
    if number == LEAVES:
        return tell_leaves(kitchen, call[1], call[2])
    if number == BEST:
        return tell_best(kitchen, call[1])
    if number == HOTTER:
        return tell_hotter(kitchen, call[1], call[2])
    return tell_half(kitchen, call[1])


def answer_measure(kitchen, call):
    number = call[0]
    if number == DONE:
        return tell_done(kitchen, call[1])
    if number == KG:
        return tell_kilograms(kitchen, call[1])
    if number == SIZES:
        return tell_sizes(kitchen, call[1])
    if number == MEAN:
        return tell_mean(kitchen, call[1])
    return tell_parts(kitchen, call[1], call[2])


def answer_overview(kitchen, call):
    number = call[0]
    if number == LIVE:
        return tell_live(kitchen)
    if number == OF:
        return tell_of(kitchen, call[1])
    if number == ROOTS:
        return tell_roots(kitchen, call[1])
    if number == RAW:
        return tell_raw(kitchen)
    if number == SUMS:
        return tell_sums(kitchen)
    return tell_state(kitchen)


def answer_call(kitchen, call):
    number = call[0]
    if not kitchen.begun and number != BEGIN:
        return [NOT_BEGUN]
    if number <= PACK:
        return answer_change(kitchen, call)
    if number <= HALF:
        return answer_look(kitchen, call)
    if number <= PARTS:
        return answer_measure(kitchen, call)
    return answer_overview(kitchen, call)


def answers(calls):
    kitchen = Kitchen()
    told = []
    start = 0
    while start < len(calls):
        end = end_of_call(calls, start)
        answer = answer_call(kitchen, calls[start:end])
        told.append(len(answer))
        told.extend(answer)
        start = end
    return told
