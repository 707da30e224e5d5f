"""A line of calls on one new object, handed in and answered as one list of whole numbers."""

from blanched.changes import add_batch, add_warmth, begin_anew, heat_batch, heat_enough, mix_batches
from blanched.changes import pack_batch, sieve_batch, wash_batch
from blanched.kitchen import Kitchen
from blanched.looks import tell_alive, tell_best, tell_leaves, tell_need, tell_would
from blanched.refusals import NOT_BEGUN

BEGIN = 0
WARM = 1
BATCH = 2
WASH = 3
SIEVE = 4
MIX = 5
HEAT = 6
ENOUGH = 7
PACK = 8
ALIVE = 9
WOULD = 10
NEED = 11
LEAVES = 12
BEST = 13

# How many whole numbers stand behind each call's own, for all 27 calls, since before a begin each of them
# answers -11. For batch these are waste and how many sizes follow.
WHOLE_NUMBERS = (1, 2, 2, 1, 2, 2, 3, 2, 1, 1, 3, 2, 2, 1, 2, 1, 1, 1, 1, 1, 2, 0, 1, 1, 0, 0, 0)


def end_of_call(calls, start):
    number = calls[start]
    end = start + 1 + WHOLE_NUMBERS[number]
    if number == BATCH:
        return end + calls[end - 1]
    return end


def answer_change(kitchen, call):
    number = call[0]
    if number == BEGIN:
        return begin_anew(kitchen, call[1])
    if number == WARM:
        return add_warmth(kitchen, call[1], call[2])
    if number == BATCH:
        return add_batch(kitchen, call[1], call[3:])
    if number == WASH:
        return wash_batch(kitchen, call[1])
    if number == SIEVE:
        return sieve_batch(kitchen, call[1], call[2])
    if number == MIX:
        return mix_batches(kitchen, call[1], call[2])
    if number == HEAT:
        return heat_batch(kitchen, call[1], call[2], call[3])
    if number == ENOUGH:
        return heat_enough(kitchen, call[1], call[2])
    return pack_batch(kitchen, call[1])


def answer_look(kitchen, call):
    number = call[0]
    if number == ALIVE:
        return tell_alive(kitchen, call[1])
    if number == WOULD:
        return tell_would(kitchen, call[1], call[2], call[3])
    if number == NEED:
        return tell_need(kitchen, call[1], call[2])
    if number == LEAVES:
        return tell_leaves(kitchen, call[1], call[2])
    if number == BEST:
        return tell_best(kitchen, call[1])
    raise NotImplementedError(f"call {number} is not written yet")


def answer_call(kitchen, call):
    number = call[0]
    if not kitchen.begun and number != BEGIN:
        return [NOT_BEGUN]
    if number <= PACK:
        return answer_change(kitchen, call)
    return answer_look(kitchen, call)


def answers(calls):
    kitchen = Kitchen()
    told = []
    start = 0
    while start < len(calls):
        end = end_of_call(calls, start)
        answer = answer_call(kitchen, calls[start:end])
        told.append(len(answer))
        told.extend(answer)
        start = end
    return told
