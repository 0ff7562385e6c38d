"""The calls about one game, and their answers."""

from namedinturn.sums import common_divisor, fewest_row, is_made, numbers_left

# The calls.
BEGINS = 0
NAMES = 1
GAPS = 2
MAKES = 3

# The refusals; an answer tells them below 0.
OUT_OF_BOUNDS = 1
NOT_MADE = 3
MADE_ALREADY = 4
ALL_NAMED = 5
DIVISOR_NOT_ONE = 6

LEAST_NAMED = 2
GREATEST_NAMED = 40
MOST_NAMED = 12
GREATEST_MADE = 300


def refused(refusal):
    return [-refusal]


class Game:
    def __init__(self):
        self.named = []

    def begins(self):
        self.named = []
        return [0]

    def names(self, number):
        if number < LEAST_NAMED or number > GREATEST_NAMED:
            return refused(OUT_OF_BOUNDS)
        if is_made(number, self.named):
            return refused(MADE_ALREADY)
        if len(self.named) == MOST_NAMED:
            return refused(ALL_NAMED)
        self.named.append(number)
        return self.standing()

    def standing(self):
        divisor = common_divisor(self.named)
        if divisor != 1:
            return [divisor]
        return [divisor, len(numbers_left(self.named))]

    def gaps(self):
        if common_divisor(self.named) != 1:
            return refused(DIVISOR_NOT_ONE)
        left = numbers_left(self.named)
        return [len(left)] + left

    def makes(self, number):
        if number > GREATEST_MADE:
            return refused(OUT_OF_BOUNDS)
        row = fewest_row(number, self.named)
        if row is None:
            return refused(NOT_MADE)
        return [sum(row)] + row

    def answer(self, call, number):
        if call == BEGINS:
            return self.begins()
        if call == NAMES:
            return self.names(number)
        if call == GAPS:
            return self.gaps()
        if call == MAKES:
            return self.makes(number)
        raise KeyError(call)


def answers(calls):
    game = Game()
    told = []
    place = 0
    while place < len(calls):
        call = calls[place]
        place += 1
        number = None
        if call == NAMES or call == MAKES:
            number = calls[place]
            place += 1
        answer = game.answer(call, number)
        told.append(len(answer))
        told.extend(answer)
    return told
