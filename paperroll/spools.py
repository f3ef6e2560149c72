"""Spools."""

# The least and the greatest of C, Q, P and T.
RANGES = ((1, 1000000), (0, 10000), (1, 100000), (1, 60000000))


class Spool:
    """A spool: the first turn's paper C, Q more for each next one, P for a row, T for a turn."""

    def __init__(self, numbers):
        self.first_turn = numbers[0]
        self.more_a_turn = numbers[1]
        self.row_length = numbers[2]
        self.turn_time = numbers[3]


def are_in_range(numbers):
    for number, ends in zip(numbers, RANGES):
        if number < ends[0] or number > ends[1]:
            return False
    return True
