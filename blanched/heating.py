"""What seconds in the heat leave."""

WHOLE = 1000
LONGEST = 600


def after_second(amount, lost):
    return amount * (WHOLE - lost) // WHOLE


def after_seconds(amount, lost, seconds):
    # Each second rounds down for itself, so there is no shorter way than second by second.
    left = amount
    for second in range(seconds):
        left = after_second(left, lost)
    return left


def least_seconds(alive, kills, limit):
    """The fewest seconds after which no more than limit is alive; None where LONGEST won't do."""
    left = alive
    for seconds in range(LONGEST + 1):
        if left <= limit:
            return seconds
        left = after_second(left, kills)
    return None
