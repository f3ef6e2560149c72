"""Spools, and the angle at which a row comes."""

# The least and the greatest of C, Q, P and T.
RANGES = ((1, 1000000), (0, 10000), (1, 100000), (1, 60000000))


class Spool:
    """A spool: the first turn's paper C, Q more for each next one, P for a row, T for a turn."""

    def __init__(self, numbers):
        self.first_turn = numbers[0]
        self.more_a_turn = numbers[1]
        self.row_length = numbers[2]
        self.turn_time = numbers[3]

    def paper_of(self, turns):
        return turns * self.first_turn + self.more_a_turn * turns * (turns - 1) // 2

    def full_turns(self, paper):
        """The greatest number of turns that take that paper or less."""
        least = 0
        # Each turn takes 1 or more. There may be millions: halving finds the number, counting would be slow.
        most = paper
        while least < most:
            middle = (least + most + 1) // 2
            if self.paper_of(middle) <= paper:
                least = middle
            else:
                most = middle - 1
        return least

    def angle(self, row):
        """A fraction of turns: what stands above its line, what stands below."""
        paper = row * self.row_length
        turns = self.full_turns(paper)
        turn_begun = self.first_turn + turns * self.more_a_turn
        return (turns * turn_begun + paper - self.paper_of(turns), turn_begun)


def are_in_range(numbers):
    for number, ends in zip(numbers, RANGES):
        if number < ends[0] or number > ends[1]:
            return False
    return True


def is_turn_time(number):
    return RANGES[3][0] <= number <= RANGES[3][1]
