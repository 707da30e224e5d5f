"""Lines of calls by name, for the tests."""

from blanched.batches import answers

NAMES = (
    "begin", "warm", "batch", "wash", "sieve", "mix", "heat", "enough", "pack", "alive", "would", "need", "leaves",
    "best", "hotter", "half", "done", "kg", "sizes", "mean", "parts", "live", "of", "roots", "raw", "sums", "state",
)
MOST = 4294967295
MOST_CALLS = 256
MILLION = 1000000


def written(calls):
    """The one list that is handed in, of calls such as ("batch", 5, [1, 2, 3, 4, 5])."""
    numbers = []
    for call in calls:
        numbers.append(NAMES.index(call[0]))
        for value in call[1:]:
            if isinstance(value, list):
                numbers.append(len(value))
                numbers.extend(value)
            else:
                numbers.append(value)
    return numbers


def parted(told):
    """The answers, one list a call."""
    parts = []
    at = 0
    while at < len(told):
        end = at + 1 + told[at]
        if end > len(told):
            raise AssertionError("an answer is shorter than its count")
        parts.append(told[at + 1:end])
        at = end
    return parts


def tell(*calls):
    """The answers to a line, one list a call."""
    if len(calls) > MOST_CALLS:
        raise AssertionError(f"{len(calls)} calls are no line")
    parts = parted(answers(written(calls)))
    if len(parts) != len(calls):
        raise AssertionError(f"{len(calls)} calls, {len(parts)} answers")
    return parts


def last(*calls):
    """The answer to a line's last call."""
    return tell(*calls)[-1]
