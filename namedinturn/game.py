"""The calls about one game, and their answers."""

from namedinturn.sums import common_divisor, fewest_row, is_made, numbers_left
from namedinturn.turns import winning_numbers, worth_of

# The calls.
BEGINS = 0
NAMES = 1
GAPS = 2
MAKES = 3
WINS = 4
WORTH = 5
ENDER = 6
UNDO = 7

# The refusals; an answer tells them below 0.
OUT_OF_BOUNDS = 1
NOT_MADE = 3
MADE_ALREADY = 4
ALL_NAMED = 5
DIVISOR_NOT_ONE = 6
TOO_MANY_LEFT = 7
NONE_LEFT = 8
NONE_NAMED = 9

LEAST_NAMED = 2
GREATEST_NAMED = 40
MOST_NAMED = 12
GREATEST_MADE = 300
MOST_LEFT = 16


def refused(refusal):
    return [-refusal]


def wins(left):
    winning = winning_numbers(left)
    if len(winning) == 0:
        return [0]
    return [1] + winning


def ender(left, named):
    if len(left) == 0:
        return refused(NONE_LEFT)
    greatest = left[-1]
    for number in left[:-1]:
        if not is_made(greatest, named + [number]):
            return [0, greatest, number]
    return [1, greatest]


class Game:
    def __init__(self):
        self.named = []

    def begins(self):
        self.named = []
        return [0]

    def names(self, number):
        if number < LEAST_NAMED or number > GREATEST_NAMED:
            return refused(OUT_OF_BOUNDS)
        if is_made(number, self.named):
            return refused(MADE_ALREADY)
        if len(self.named) == MOST_NAMED:
            return refused(ALL_NAMED)
        self.named.append(number)
        return self.standing()

    def standing(self):
        divisor = common_divisor(self.named)
        if divisor != 1:
            return [divisor]
        return [divisor, len(numbers_left(self.named))]

    def gaps(self):
        if common_divisor(self.named) != 1:
            return refused(DIVISOR_NOT_ONE)
        left = numbers_left(self.named)
        return [len(left)] + left

    def makes(self, number):
        if number > GREATEST_MADE:
            return refused(OUT_OF_BOUNDS)
        row = fewest_row(number, self.named)
        if row is None:
            return refused(NOT_MADE)
        return [sum(row)] + row

    # Wins, worth and ender: all three look at each number that is left.
    def looks_ahead(self, call):
        if common_divisor(self.named) != 1:
            return refused(DIVISOR_NOT_ONE)
        left = numbers_left(self.named)
        if len(left) > MOST_LEFT:
            return refused(TOO_MANY_LEFT)
        if call == WINS:
            return wins(left)
        if call == WORTH:
            return [worth_of(left)]
        return ender(left, self.named)

    def undo(self):
        if len(self.named) == 0:
            return refused(NONE_NAMED)
        self.named.pop()
        return self.standing()

    def answer(self, call, number):
        if call == BEGINS:
            return self.begins()
        if call == NAMES:
            return self.names(number)
        if call == GAPS:
            return self.gaps()
        if call == MAKES:
            return self.makes(number)
        if call == WINS or call == WORTH or call == ENDER:
            return self.looks_ahead(call)
        if call == UNDO:
            return self.undo()
        raise KeyError(call)


def answers(calls):
    game = Game()
    told = []
    place = 0
    while place < len(calls):
        call = calls[place]
        place += 1
        number = None
        if call == NAMES or call == MAKES:
            number = calls[place]
            place += 1
        answer = game.answer(call, number)
        told.append(len(answer))
        told.extend(answer)
    return told
